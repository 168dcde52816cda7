import random
import unittest

from trunksay.alike import apart_tree
from trunksay.counts import counted
from trunksay.desk import Desk
from trunksay.errors import TooGreat, TrunkError
from trunksay.fillings import filled, fillings
from trunksay.lines import read_line
from trunksay.listing import tree_at
from trunksay.record import machine_of
from trunksay.runs import lets_by
from trunksay.saying import read_statement, statement_text
from trunksay.treetext import read_tree, tree_text
from trunksay.verdicts import always_lets, ever_lets

from tests.helping import check_refused, random_statement

# So many parts that its machine would have 14 names.
TOO_GREAT = "( A in B and ( C in D and ( E in F and ( G in H and ( I in J and ( K in L and M in N ) ) ) ) ) )"
ALL_FORMS = (
    "say s A in B", "tree w 0A 1", "drop s", "drop w", "show s", "show w", "names", "true s w", "always s", "some s",
    "alike s s", "count s 3", "nth s 3 0", "fills s w A", "fill s w A", "hold s w", "put 0 A", "take 0 A",
    "branch 0 left 0", "back", "again", "keep k")


def desk_with(*lines):
    desk = Desk()
    for line in lines:
        desk.ask(line)
    return desk


class Case(unittest.TestCase):
    def ask(self, desk, *pairs):
        for line, answer in pairs:
            self.assertEqual(desk.ask(line), answer, line)

    def refuse(self, desk, name, *lines):
        for line in lines:
            with self.subTest(line=line):
                check_refused(self, name, desk.ask, line)


class Names(Case):
    def test_say_and_show(self):
        desk = Desk()
        self.ask(desk, ("say one A in B", "kept"), ("show one", "A in B"), ("say one one x", "kept"),
                 ("show one", "one x"), ("say a ( A in B or not one x )", "kept"), ("show a", "( A in B or not one x )"),
                 ("say say some x all X X in x", "kept"), ("show say", "some x all X X in x"))

    def test_tree_and_show(self):
        desk = Desk()
        self.ask(desk, ("tree w 0A 0 3xy", "kept"), ("show w", "0A 0 3xy"), ("tree w -", "kept"), ("show w", "-"),
                 ("tree tree 0", "kept"), ("show tree", "0"))

    def test_names_and_drop(self):
        desk = Desk()
        self.ask(desk, ("names", "-"), ("say b one x", "kept"), ("names", "b"), ("tree ab -", "kept"),
                 ("tree a 0", "kept"), ("names", "a ab b"), ("say a one y", "kept"), ("names", "a ab b"),
                 ("drop ab", "dropped"), ("names", "a b"), ("drop a", "dropped"), ("drop b", "dropped"), ("names", "-"))
        self.refuse(desk, "NoName", "drop a", "show a", "drop ab")

    def test_a_name_that_changes_its_kind(self):
        desk = desk_with("say s one x", "tree w 0x")
        self.ask(desk, ("true s w", "yes"), ("tree s 0", "kept"), ("show s", "0"))
        self.refuse(desk, "NoName", "true s w", "always s", "true s s")
        self.ask(desk, ("say w one x", "kept"), ("true w s", "no"), ("show w", "one x"), ("names", "s w"))
        self.refuse(desk, "NoName", "true w w", "hold s w", "fills s w x")

    def test_dropped_and_kept_again(self):
        desk = desk_with("say s one x", "drop s", "tree s 0x", "say t one x")
        self.ask(desk, ("true t s", "yes"), ("drop s", "dropped"))
        self.refuse(desk, "NoName", "true t s", "show s")

    def test_names_of_1_to_12_letters(self):
        desk = Desk()
        self.ask(desk, ("tree " + "z" * 12 + " 0", "kept"), ("say a one x", "kept"), ("show " + "z" * 12, "0"),
                 ("true a " + "z" * 12, "no"), ("hold a " + "z" * 12, "no"), ("keep " + "b" * 12, "kept"),
                 ("names", "a " + "b" * 12 + " " + "z" * 12), ("drop " + "z" * 12, "dropped"))
        self.refuse(desk, "NoLine", "tree " + "z" * 13 + " 0", "show " + "z" * 13, "keep " + "z" * 13, "drop " + "z" * 13,
                    "tree  0", "show ", "keep ", "drop ", "say  one x", "true a " + "z" * 13, "always " + "a" * 13,
                    "tree a1 0", "tree A 0", "tree aB 0", "tree a_b 0", "tree a-b 0", "keep A", "show A", "tree { 0")

    def test_each_desk_by_itself(self):
        one, other = desk_with("tree w 0"), desk_with("say w one x")
        self.ask(one, ("show w", "0"), ("names", "w"))
        self.ask(other, ("show w", "one x"), ("drop w", "dropped"))
        self.ask(one, ("show w", "0"), ("say s one x", "kept"), ("hold s w", "no"))
        self.refuse(other, "NothingHeld", "back")


class Answers(Case):
    def test_true(self):
        desk = desk_with("say s A in B", "tree a 0A", "tree b 0AB 1", "tree e -")
        self.ask(desk, ("true s a", "no"), ("true s b", "yes"), ("true s e", "yes"))

    def test_always_and_some(self):
        desk = desk_with("say s A in B", "say t A in A", "say o one x", "say n ( one x and not one x )",
                         "say e not some x x in x", "say l not x left A")
        self.ask(desk, ("always s", "no 0A"), ("always t", "yes"), ("always o", "no -"), ("always n", "no -"),
                 ("always e", "no 0"), ("some s", "yes -"), ("some t", "yes -"), ("some o", "yes 0x"), ("some n", "no"),
                 ("some e", "yes -"), ("some l", "yes 0x"), ("always l", "no -"))

    def test_alike(self):
        desk = desk_with("say s A left B", "say t A right B", "say u all x ( not x in A or some y ( y in B and x left y ) )",
                         "say z z in z", "say o one z")
        self.ask(desk, ("alike s s", "yes"), ("alike s t", "no 0A 2B"), ("alike t s", "no 0A 2B"), ("alike s u", "yes"),
                 ("alike u s", "yes"), ("alike z z", "yes"), ("alike z o", "no -"), ("alike s z", "no 0A"))

    def test_count(self):
        desk = desk_with("say s one x", "say t x in x", "say n ( one x and not one x )")
        self.ask(desk, ("count s 0", "0"), ("count s 1", "1"), ("count s 2", "4"), ("count t 0", "1"), ("count t 3", "40"),
                 ("count n 24", "0"), ("count t 24", str(1289904147324 * 2 ** 24)))
        self.refuse(desk, "TooGreat", "count t 25", "count n 25", "count n " + "9" * 150)

    def test_nth(self):
        desk = desk_with("say s one x", "say n ( one x and not one x )")
        self.ask(desk, ("nth s 1 0", "0x"), ("nth s 2 0", "0 2x"), ("nth s 2 1", "0x 2"), ("nth s 2 2", "0 1x"),
                 ("nth s 2 3", "0x 1"))
        self.refuse(desk, "NoNumber", "nth s 2 4", "nth s 0 0", "nth n 0 0", "nth s 24 " + "9" * 150)
        self.refuse(desk, "TooGreat", "nth s 25 0", "nth n 25 0", "nth n " + "9" * 150 + " " + "9" * 150)
        self.ask(desk, ("say e x in x", "kept"), ("nth e 0 0", "-"))

    def test_fills_and_fill(self):
        desk = desk_with("say s one x", "tree w 0x 1A", "tree e -", "say n ( one x and not one x )")
        self.ask(desk, ("fills s w x", "2"), ("fill s w x", "0 1Ax"), ("fills s w A", "4"), ("fill s w A", "0x 1"),
                 ("fills s e x", "0"), ("fill s e x", "none"), ("fills n w Ax", "0"), ("fill n w Ax", "none"),
                 ("fills s w ABxy", "128"), ("fill s w ABxy", "0 1x"))
        self.ask(desk, ("say a x in x", "kept"), ("fill a e x", "-"), ("fills a e ABCD", "1"))
        self.refuse(desk, "TooGreat", "fills s w ABCDE", "fill s w ABCDE", "fills n e ABCDE", "fill s e ABCDEabcde")

    def test_the_greatest_numbers(self):
        every = "( A in A and ( B in B and ( C in C and ( D in D and ( E in E and ( F in F and ( G in G and " \
                "( H in H and ( I in I and ( J in J and ( K in K and ( L in L and M in M ) ) ) ) ) ) ) ) ) ) ) )"
        wood = "0" + " 1" * 99
        desk = desk_with("say s " + every, "tree w " + wood)
        self.ask(desk, ("count s 24", str(1289904147324 * 8192 ** 24)), ("fills s w ABCD", str(2 ** 400)),
                 ("fill s w ABCD", wood), ("show w", wood), ("show s", every))
        last = "0ABCDEFGHIJKLM" + " 1ABCDEFGHIJKLM" * 23
        self.ask(desk, ("nth s 24 " + str(1289904147324 * 8192 ** 24 - 1), last))
        self.refuse(desk, "NoNumber", "nth s 24 " + str(1289904147324 * 8192 ** 24))

    def test_against_the_modules(self):
        chance = random.Random(390)
        told = 0
        for _ in range(60):
            statements = [random_statement(chance, chance.randrange(1, 8)) for _ in range(2)]
            tree = read_tree(chance.choice(("-", "0A", "0x 1X", "0Ax 0y 3", "0 2A 0X 3xy 1Y")))
            desk = Desk()
            try:
                desk.ask("say s " + statement_text(statements[0]))
                desk.ask("say t " + statement_text(statements[1]))
            except TrunkError:
                continue
            told += 1
            desk.ask("tree w " + tree_text(tree))
            one, other = [machine_of(statement) for statement in statements]
            self.check_machine(desk, one, tree)
            self.check_alike(desk, one, other)
        self.assertGreater(told, 40)

    def check_alike(self, desk, one, other):
        try:
            apart = apart_tree(one, other)
        except TooGreat:
            self.refuse(desk, "TooGreat", "alike s t")
            return
        self.ask(desk, ("alike s t", "yes" if apart is None else "no " + tree_text(apart)))

    def check_machine(self, desk, machine, tree):
        always, ever = always_lets(machine), ever_lets(machine)
        first = filled(machine, tree, "Ax")
        self.ask(desk, ("true s w", "yes" if lets_by(machine, tree) else "no"),
                 ("always s", "yes" if always[0] == "always" else "no " + tree_text(always[1])),
                 ("some s", "no" if ever[0] == "never" else "yes " + tree_text(ever[1])),
                 ("count s 5", str(counted(machine, 5))), ("fills s w Ax", str(fillings(machine, tree, "Ax"))),
                 ("fill s w Ax", "none" if first is None else tree_text(first)),
                 ("hold s w", "yes" if lets_by(machine, tree) else "no"))
        for number in range(min(counted(machine, 3), 3)):
            self.ask(desk, ("nth s 3 " + str(number), tree_text(tree_at(machine, 3, number))))


class InHand(Case):
    def setUp(self):
        self.desk = desk_with("say s A in B", "say o one x", "tree w 0 1", "tree e -")

    def test_hold(self):
        self.ask(self.desk, ("hold s w", "yes"), ("hold o w", "no"), ("hold o e", "no"), ("hold s e", "yes"))

    def test_put_and_take_back_and_again(self):
        self.ask(self.desk, ("hold o w", "no"), ("put 0 x", "yes"), ("put 1 x", "no"), ("take 0 x", "yes"),
                 ("keep k", "kept"), ("show k", "0 1x"), ("back", "no"), ("back", "yes"), ("again", "no"),
                 ("again", "yes"), ("keep k", "kept"), ("show k", "0 1x"), ("back", "no"), ("back", "yes"),
                 ("back", "no"), ("keep k", "kept"), ("show k", "0 1"))
        self.refuse(self.desk, "NothingDone", "back")
        self.ask(self.desk, ("again", "yes"), ("put 0 z", "yes"))
        self.refuse(self.desk, "NothingDone", "again")
        self.ask(self.desk, ("keep k", "kept"), ("show k", "0xz 1"))

    def test_branch(self):
        self.ask(self.desk, ("hold o w", "no"), ("branch 1 right 0x", "yes"), ("keep k", "kept"), ("show k", "0 0x 3"),
                 ("branch 2 left -", "yes"), ("keep k", "kept"), ("show k", "0x 2"), ("branch 1 right -", "no"),
                 ("keep k", "kept"), ("show k", "0"), ("branch 0 left 0 0x 3x", "no"), ("keep k", "kept"),
                 ("show k", "0 0x 3x 1"), ("back", "no"), ("back", "yes"), ("back", "yes"), ("keep k", "kept"),
                 ("show k", "0 0x 3"))

    def test_refused_deeds(self):
        self.ask(self.desk, ("hold o w", "no"), ("put 1 x", "yes"))
        self.refuse(self.desk, "NoPlace", "put 2 x", "take 2 x", "branch 2 left 0", "put " + "9" * 150 + " x",
                    "take " + "1" * 150 + " x", "branch " + "9" * 150 + " left -")
        self.refuse(self.desk, "TooGreat", "branch 0 left 0" + " 1" * 98, "branch 0 right 0" + " 1" * 99)
        self.refuse(self.desk, "TooGreat", "branch 0 left " + " " * 100)
        self.refuse(self.desk, "NoTree", "branch 0 left ", "branch 0 left x", "branch 0 left 0 0", "branch 0 left  0",
                    "branch 0 left 0 ", "branch 9 left 1")
        self.refuse(self.desk, "NoPlace", "branch 9 left 0" + " 1" * 99)
        self.ask(self.desk, ("keep k", "kept"), ("show k", "0 1x"), ("branch 0 left 0" + " 1" * 97, "yes"),
                 ("back", "yes"), ("back", "no"))
        self.refuse(self.desk, "NothingDone", "back")

    def test_nothing_in_hand(self):
        lines = ("put 0 A", "take 0 A", "branch 0 left 0", "back", "again", "keep k", "branch 0 left nothing",
                 "branch 9 left ", "branch 0 right " + " " * 200)
        self.refuse(self.desk, "NothingHeld", *lines)
        self.refuse(self.desk, "NoName", "hold s x", "hold x w", "hold w s")
        self.refuse(self.desk, "NothingHeld", *lines)
        self.ask(self.desk, ("names", "e o s w"), ("hold s w", "yes"), ("keep k", "kept"), ("names", "e k o s w"))

    def test_what_is_in_hand_when_names_are_kept_or_dropped(self):
        self.ask(self.desk, ("hold o w", "no"), ("say o A in A", "kept"), ("put 0 x", "yes"), ("tree w 0x 0x 3x", "kept"),
                 ("put 1 x", "no"), ("drop w", "dropped"), ("drop o", "dropped"), ("back", "yes"), ("keep o", "kept"),
                 ("show o", "0x 1"), ("put 1 x", "no"), ("show o", "0x 1"), ("drop o", "dropped"), ("take 0 x", "yes"))

    def test_held_again_is_new(self):
        self.ask(self.desk, ("hold o w", "no"), ("put 0 x", "yes"), ("hold o w", "no"))
        self.refuse(self.desk, "NothingDone", "back", "again")
        self.ask(self.desk, ("show w", "0 1"), ("put 1 x", "yes"))
        self.refuse(self.desk, "NoName", "hold o x")
        self.ask(self.desk, ("back", "no"))

    def test_no_other_line_takes_anything_in_hand(self):
        for line in ("say t one x", "tree t 0", "true s w", "always s", "some s", "alike s o", "count s 2", "nth s 2 0",
                     "fills s w A", "fill s w A", "show s", "names", "drop e"):
            self.desk.ask(line)
            self.refuse(self.desk, "NothingHeld", "back", "keep k")
        self.ask(self.desk, ("hold o w", "no"), ("put 0 x", "yes"))
        for line in ("say t one x", "tree t 0", "true s w", "always s", "some s", "alike s o", "count s 2", "nth s 2 0",
                     "fills s w A", "fill s w A", "show s", "names", "drop t", "keep k"):
            self.desk.ask(line)
        self.ask(self.desk, ("back", "no"), ("again", "yes"), ("keep k", "kept"), ("show k", "0x 1"))

    def test_keep(self):
        self.ask(self.desk, ("hold s e", "yes"), ("keep s", "kept"), ("show s", "-"), ("keep e", "kept"), ("names", "e o s w"))
        self.refuse(self.desk, "NoName", "always s")


class Forms(Case):
    def setUp(self):
        self.desk = desk_with("say s A in B", "tree w 0A 1", "hold s w")

    def test_each_form_is_one(self):
        for line in ALL_FORMS:
            desk = desk_with("say s A in B", "tree w 0A 1", "hold s w", "put 0 B", "put 1 B", "back")
            self.assertIsInstance(desk.ask(line), str, line)

    def test_first_words(self):
        self.refuse(self.desk, "NoLine", "", " ", "  ", "nothing", "s", "w", "-", "says s A in B", "whole 0", "sa", "not s",
                    "rooms", "reckoned", "list s 2", "rank s w", "quit", "help", "names;", "NAMES")

    def test_great_letters_in_a_word(self):
        for line in ALL_FORMS:
            word, blank, rest = line.partition(" ")
            self.refuse(self.desk, "NoLine", word.upper() + blank + rest, word.capitalize() + blank + rest)
        self.refuse(self.desk, "NoLine", "branch 0 Left 0", "branch 0 LEFT 0", "branch 0 RIGHT 0", "true S w", "true s W")

    def test_a_blank_more(self):
        for line in ALL_FORMS:
            self.refuse(self.desk, "NoLine", " " + line)
            if line.split()[0] not in ("say", "tree", "branch"):
                self.refuse(self.desk, "NoLine", line + " ")
            if " " in line:
                self.refuse(self.desk, "NoLine", line.replace(" ", "  ", 1))
        self.refuse(self.desk, "NoLine", "true s  w", "nth s 3  0", "nth s  3 0", "fills s w  A", "fills s  w A",
                    "put 0  A", "branch 0  left 0", "count s  3")
        self.refuse(self.desk, "NoStatement", "say s  A in B", "say s A in B ", "say s A  in B", "say s  ")
        self.refuse(self.desk, "NoTree", "tree w  0", "tree w 0 ", "tree w 0  1", "tree w  ", "branch 0 left  0",
                    "branch 0 left 0 ", "branch 0 left  ")

    def test_a_word_more(self):
        for line in ALL_FORMS:
            if line.split()[0] not in ("say", "tree", "branch"):
                self.refuse(self.desk, "NoLine", line + " s", line + " 0", line + " -")
        self.refuse(self.desk, "NoStatement", "say s A in B s")
        self.refuse(self.desk, "NoTree", "tree w 0 0", "branch 0 left 0 0")

    def test_a_word_less(self):
        for line in ALL_FORMS:
            words = line.split()
            for many in range(1, 2 if words[0] in ("say", "tree") else 3 if words[0] == "branch" else len(words)):
                self.refuse(self.desk, "NoLine", " ".join(words[:many]))

    def test_an_empty_text_with_and_without_its_blank(self):
        self.refuse(self.desk, "NoLine", "say s", "say", "tree w", "tree", "branch 0 left", "branch 0", "branch")
        self.refuse(self.desk, "NoStatement", "say s ")
        self.refuse(self.desk, "NoTree", "tree w ", "branch 0 left ")
        self.refuse(self.desk, "NoLine", "say ", "tree ", "branch ", "branch 0 ", "say  ", "tree  ", "branch  left 0")

    def test_figures(self):
        self.refuse(self.desk, "NoLine", "count s 00", "count s 01", "count s -1", "count s +1", "count s x", "count s 1x",
                    "count s ", "count s 1.0", "count s 1_0", "count s " + "1" * 151, "count s 0" + "1" * 10,
                    "nth s 01 0", "nth s 1 00", "nth s 1 -1", "nth s 1 " + "1" * 151, "nth s " + "1" * 151 + " 0",
                    "put 00 A", "put -1 A", "take 01 A", "put " + "1" * 151 + " A", "branch -1 left 0",
                    "branch 00 left 0", "branch " + "1" * 151 + " left 0", "put A 0", "put x A", "count s 1,0")
        self.refuse(self.desk, "TooGreat", "count s " + "1" * 150, "nth s " + "9" * 150 + " 0", "count s 100")
        self.refuse(self.desk, "NoNumber", "nth s 1 " + "1" * 150, "nth s 0 10")
        self.refuse(self.desk, "NoPlace", "put " + "1" * 150 + " A", "take 10 A")
        self.ask(self.desk, ("count s 0", "1"), ("nth s 0 0", "-"), ("count s 10", str(16796 * 3 ** 10)))

    def test_letters_and_sides(self):
        self.refuse(self.desk, "NoLine", "put 0 AB", "put 0 ", "put 0 1", "take 0 aa", "put 0 -", "take 0 .",
                    "fills s w BA", "fills s w AA", "fills s w ", "fills s w aA", "fill s w A1", "fill s w zy",
                    "fill s w -", "branch 0 up 0", "branch 0 l 0", "branch 0 lefts 0", "branch 0  0")
        self.ask(self.desk, ("fills s w Aa", "4"), ("fills s w a", "0"), ("put 0 z", "no"), ("branch 0 right 0", "no"))

    def test_read_line(self):
        self.assertEqual(read_line("nth s 12 0"), ("nth", ["s", 12, 0]))
        self.assertEqual(read_line("say s  A in B "), ("say", ["s", " A in B "]))
        self.assertEqual(read_line("branch 3 left 0 1"), ("branch", [3, "left", "0 1"]))


class OrderOfRefusals(Case):
    def setUp(self):
        self.desk = desk_with("say s A in B", "tree w 0A 1")

    def test_no_line_ahead_of_no_name(self):
        self.refuse(self.desk, "NoLine", "true x", "true x y z", "count x 01", "fills x y BA", "nth x 1 -1", "fill x w ",
                    "drop x y", "show x ", "hold x", "alike x")
        self.refuse(self.desk, "NoName", "true x y", "count x 1", "fills x y AB", "nth x 1 1", "drop x", "show x",
                    "hold x w", "alike x s", "alike s x", "true s x", "true x w", "true s s", "true w w", "true w s",
                    "always w", "some w", "some x", "always x", "count w 1", "nth w 1 1", "fills s s A", "fills w w A",
                    "fill s s A", "fill w w A", "hold s s", "hold w w", "alike s w", "alike w s")

    def test_no_line_ahead_of_nothing_held(self):
        self.refuse(self.desk, "NoLine", "put 0", "put 00 A", "take 0 AB", "branch 0 left", "back ", "again s", "keep A",
                    "keep", "branch 0 up 0")

    def test_no_name_ahead_of_all_behind_it(self):
        self.refuse(self.desk, "NoName", "count x 25", "nth x 25 0", "fills x w ABCDE", "fills s x ABCDE",
                    "fill w s ABCDE", "nth x 1 " + "9" * 150, "count x " + "9" * 150)

    def test_the_text_ahead_of_what_it_stands_for(self):
        self.refuse(self.desk, "NoStatement", "say t A in", "say t " + TOO_GREAT + " )")
        self.refuse(self.desk, "TooGreat", "say t " + "x" * 301, "say t " + TOO_GREAT,
                    "say t " + "not " * 30 + "one x", "tree t " + " " * 100, "tree t x" + " x" * 100)
        self.refuse(self.desk, "NoStatement", "say t " + "x" * 300)
        self.refuse(self.desk, "NoTree", "tree t " + " " * 99, "tree t 3", "tree t 0BA", "tree t A0", "tree t --",
                    "tree t 4", "tree t 0 0")
        self.ask(self.desk, ("say t " + "not " * 29 + "one x", "kept"), ("tree u 0" + " 1" * 99, "kept"))

    def test_nothing_held_ahead_of_the_text(self):
        self.refuse(self.desk, "NothingHeld", "branch 0 left x", "branch 0 left " + " " * 100, "branch 7 left 0")
        self.desk.ask("hold s w")
        self.refuse(self.desk, "NoTree", "branch 7 left x")
        self.refuse(self.desk, "TooGreat", "branch 7 left " + " " * 100)
        self.refuse(self.desk, "NoPlace", "branch 7 left 0", "branch 2 left 0" + " 1" * 99)
        self.refuse(self.desk, "TooGreat", "branch 1 right 0" + " 1" * 99)

    def test_too_great_by_the_points_named(self):
        desk = desk_with("say s ( A in A and ( B in B and ( C in C and ( D in D and ( E in E and ( F in F and G in G"
                         " ) ) ) ) ) )", "say t ( H in H and ( I in I and ( J in J and ( K in K and ( L in L and ( M in M"
                         " and N in N ) ) ) ) ) )", "say u ( H in H and ( I in I and ( J in J and ( K in K and ( L in L "
                         "and M in M ) ) ) ) )")
        self.refuse(desk, "TooGreat", "alike s t", "alike t s")
        self.ask(desk, ("alike s u", "yes"))

    def test_nothing_is_changed_behind_a_refused_line(self):
        desk = desk_with("say s A in B", "tree w 0A 1", "hold s w", "put 0 B", "put 1 A", "back")
        for line in ("say s A in", "say s " + TOO_GREAT, "say w " + TOO_GREAT, "tree w 3", "tree s 3", "tree t " + " " * 100,
                     "say t one", "drop x", "hold s x", "hold w s", "keep A", "put 9 A", "branch 0 left 3",
                     "branch 0 left 0" + " 1" * 99, "count s 25", "nth s 0 9", "fills s w ABCDE", "nothing", ""):
            with self.assertRaises(TrunkError):
                desk.ask(line)
            self.ask(desk, ("names", "s w"), ("show s", "A in B"), ("show w", "0A 1"), ("true s w", "no"))
        self.ask(desk, ("again", "no"), ("keep k", "kept"), ("show k", "0AB 1A"), ("back", "yes"), ("back", "no"))
        self.refuse(desk, "NothingDone", "back")


class Statements(Case):
    def test_what_the_document_writes(self):
        text = "all x ( not x in A or some y ( y left x and y in B ) )"
        desk = desk_with("say s " + text, "tree a 0B 1A", "tree b 0 1A")
        self.ask(desk, ("show s", text), ("true s a", "yes"), ("true s b", "no"), ("always s", "no 0A"),
                 ("hold s b", "no"), ("put 0 B", "yes"), ("branch 1 left -", "no"), ("back", "yes"))
        self.assertEqual(statement_text(read_statement(text)), text)

    def test_bound_letters_are_none_of_the_first_trees(self):
        desk = desk_with("say s some x some y ( x left y and y left A )")
        self.ask(desk, ("some s", "yes 0 1 1A"))


if __name__ == "__main__":
    unittest.main()
