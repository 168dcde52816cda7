import random
import unittest

from trunksay.bases import base_of
from trunksay.errors import TooGreat
from trunksay.going import holds
from trunksay.hiding import hidden
from trunksay.joining import both, either, flipped
from trunksay.least import least_of
from trunksay.record import machine_of, record_of, shown_record
from trunksay.saying import read_statement
from trunksay.statements import names_of, parts_many
from trunksay.steps import steps_of

from tests.helping import (ONE_ROOM, THIRTEEN, Said, check_least, check_refused, every_form, idle, is_machine, is_plain,
                           let_by_words, ordered_trees, random_machine, random_statement)

PLAIN = (("in", "x", "A"), ("one", "x"), ("left", "x", "A"), ("right", "x", "A"), ("below", "x", "A"),
         ("in", "B", "B"), ("left", "x", "x"), ("below", "x", "x"))
WRITTEN = "all x ( not x in A or some y ( y left x and y in B ) )"


def record_by_steps(statement):
    """The lines one after the other; None where a step is refused."""
    lines = []
    for step in steps_of(statement):
        word = step[0]
        try:
            if word == "hide":
                made = hidden(lines[step[2]][1], step[1])
            elif word in ("not", "and", "or"):
                parts = [lines[number][1] for number in step[1:]]
                made = {"not": flipped, "and": both, "or": either}[word](*parts)
            else:
                made = least_of(base_of(step))
        except TooGreat:
            return None
        lines.append((step,) + made)
    return tuple(lines)


class Records(unittest.TestCase):
    def test_plain_statements(self):
        for plain in PLAIN:
            self.assertEqual(record_of(plain), ((plain,) + least_of(base_of(plain)),))
            self.assertEqual(machine_of(plain), least_of(base_of(plain))[0])

    def test_not_and_or(self):
        one, other = ("one", "x"), ("in", "A", "x")
        first, second = least_of(base_of(one)), least_of(base_of(other))
        self.assertEqual(record_of(("not", one)), ((one,) + first, (("not", 0),) + flipped(first[0])))
        self.assertEqual(record_of(("and", other, one)),
                         ((other,) + second, (one,) + first, (("and", 0, 1),) + both(second[0], first[0])))
        self.assertEqual(record_of(("or", one, other)),
                         ((one,) + first, (other,) + second, (("or", 0, 1),) + either(first[0], second[0])))

    def test_some_and_all(self):
        inner = ("in", "X", "A")
        base = least_of(base_of(inner))
        self.assertEqual(record_of(("some", "X", inner)), ((inner,) + base, (("hide", "X", 0),) + hidden(base[0], "X")))
        turned = flipped(base[0])
        some = hidden(turned[0], "X")
        self.assertEqual(record_of(("all", "X", inner)), (
            (inner,) + base, (("not", 0),) + turned, (("hide", "X", 1),) + some, (("not", 2),) + flipped(some[0])))
        inner = ("in", "x", "A")
        base, one = least_of(base_of(inner)), least_of(base_of(("one", "x")))
        pair = both(one[0], base[0])
        self.assertEqual(record_of(("some", "x", inner)), (
            (("one", "x"),) + one, (inner,) + base, (("and", 0, 1),) + pair, (("hide", "x", 2),) + hidden(pair[0], "x")))

    def test_a_letter_bound_that_nothing_looks_at(self):
        inner = ("one", "A")
        self.assertEqual(machine_of(("some", "X", inner)), machine_of(inner))
        self.assertEqual(machine_of(("all", "X", inner)), machine_of(inner))
        # With a small letter there must be a place, or need not be one.
        self.assertEqual(machine_of(("some", "x", inner)), machine_of(inner))
        self.assertEqual(machine_of(("all", "x", inner)),
                         machine_of(("or", inner, ("not", ("some", "x", ("in", "A", "A"))))))

    def test_what_the_document_writes(self):
        statement = read_statement(WRITTEN)
        machine = machine_of(statement)
        self.assertEqual(machine[0], "AB")
        for size in range(4):
            for tree in ordered_trees(size, "AB"):
                self.assertIs(let_by_words(machine, tree), Said(tree).true(statement))

    def test_a_line_for_each_step(self):
        for statement, _ in every_form()[::5]:
            lines = record_of(statement)
            self.assertEqual(tuple(line[0] for line in lines), steps_of(statement))
            self.assertTrue(is_plain(lines))
            self.assertEqual(lines, record_by_steps(statement))
            self.assertEqual(lines[-1][1], machine_of(statement))
            self.assertEqual(lines[-1][1][0], names_of(statement))
            self.assertTrue(all(is_machine(line[1]) for line in lines))
            self.assertIs(shown_record(lines), True)

    def test_against_the_words_for_all_small_trees(self):
        forms = [statement for statement, _ in every_form()[::9]]
        chance = random.Random(300)
        forms.extend(random_statement(chance, chance.randrange(2, 9)) for _ in range(120))
        told = [statement for statement in forms if record_by_steps(statement) is not None]
        self.assertGreater(len(told), len(forms) - 10)
        for statement in told:
            names = names_of(statement)
            machine = machine_of(statement)
            for size in range((4, 4, 3, 2, 2)[len(names)]):
                for tree in ordered_trees(size, names):
                    self.assertIs(let_by_words(machine, tree), Said(tree).true(statement), (statement, tree))

    def test_trees_with_other_letters(self):
        statement = ("some", "x", ("and", ("in", "x", "A"), ("left", "x", "A")))
        for tree in (((0, "ABz"), (1, "Ax")), ((0, "Bx"), (1, "Ax")), ((0, "x"), (1, "x")), ((0, "AX"), (1, "AX"))):
            self.assertIs(let_by_words(machine_of(statement), tree), holds(statement, tree))

    def test_machines_are_least(self):
        chance = random.Random(301)
        for _ in range(15):
            for line in record_of(random_statement(chance, 7)):
                check_least(self, line[1])


class SayTheSame(unittest.TestCase):
    def test_two_statements_that_say_the_same(self):
        for one, other in (
                ("( x in A and A in x )", "( A in x and x in A )"),
                ("not some x not x in A", "all x x in A"),
                ("not ( A in B and one A )", "( not one A or not A in B )"),
                ("some x ( x in A and x in B )", "not all x ( not x in A or not x in B )"),
                ("A in B", "all x ( not x in A or x in B )"),
                ("one A", "some x ( x in A and A in x )"),
                ("A below B", "all x ( not x in A or some y ( y in B and x below y ) )"),
                ("A left B", "all x ( not x in A or some y ( y in B and x left y ) )")):
            self.assertEqual(machine_of(read_statement(one)), machine_of(read_statement(other)), one)

    def test_two_that_do_not(self):
        for one, other in (("A left B", "A right B"), ("A below B", "A left B"), ("A in B", "B in A"),
                           ("some x x in A", "all x x in A"), ("some X X in A", "some x x in A")):
            self.assertNotEqual(machine_of(read_statement(one)), machine_of(read_statement(other)), one)

    def test_equal_just_where_all_small_trees_are_told_alike(self):
        chance = random.Random(302)
        trees = [tree for size in range(5) for tree in ordered_trees(size, "A")]
        found = {}
        statements = [random_statement(chance, chance.randrange(2, 6)) for _ in range(700)]
        for statement in [each for each in statements if names_of(each) == "A"]:
            machine = machine_of(statement)
            told = tuple(let_by_words(machine, tree) for tree in trees)
            found.setdefault(told, set()).add(machine)
        self.assertGreater(len(found), 10)
        for machines in found.values():
            self.assertEqual(len(machines), 1)


class Refused(unittest.TestCase):
    def test_names_up_to_13_and_14(self):
        def of_names(names):
            statement = ("in", names[0], names[0])
            for name in names[1:]:
                statement = ("and", statement, ("in", name, name))
            return statement

        self.assertEqual(machine_of(of_names(THIRTEEN)), idle(THIRTEEN))
        self.assertEqual(parts_many(of_names(THIRTEEN + "N")), 27)
        check_refused(self, "TooGreat", machine_of, of_names(THIRTEEN + "N"))
        check_refused(self, "TooGreat", record_of, of_names(THIRTEEN + "N"))

    def test_a_step_ahead_of_the_last_one(self):
        # The refused step is hidden again behind it, and what it would say is lost in an "or".
        great = ("and", ("in", "A", "B"), ("in", "C", "D"))
        for pair in ("EF", "GH", "IJ", "KL", "MN"):
            great = ("and", great, ("in", pair[0], pair[1]))
        for statement in (great, ("not", great), ("some", "A", great), ("or", ("in", "A", "A"), great)):
            check_refused(self, "TooGreat", record_of, statement)
            check_refused(self, "TooGreat", machine_of, statement)

    def test_just_where_a_step_is(self):
        chance = random.Random(303)
        answers = []
        for _ in range(60):
            statement = random_statement(chance, 30)
            self.assertEqual(parts_many(statement), 30)
            lines = record_by_steps(statement)
            answers.append(lines is None)
            if lines is None:
                check_refused(self, "TooGreat", record_of, statement)
                check_refused(self, "TooGreat", machine_of, statement)
            else:
                self.assertEqual(record_of(statement), lines)
                self.assertEqual(machine_of(statement), lines[-1][1])
                self.assertIs(shown_record(lines), True)
        self.assertTrue(answers.count(True) > 5 and answers.count(False) > 20, answers)

    def test_30_parts_one_within_the_other(self):
        for word, letter in (("some", "x"), ("all", "x"), ("some", "X"), ("all", "X")):
            statement = ("in", "x", "A")
            for _ in range(29):
                statement = (word, letter, statement)
            self.assertEqual(machine_of(statement), machine_of((word, letter, (word, letter, ("in", "x", "A")))))


def same_line(step, machine):
    return (step, machine, tuple((room, room) for room in range(len(machine[1]))))


class Looker(unittest.TestCase):
    def setUp(self):
        self.lines = record_of(read_statement(WRITTEN))

    def test_no_line(self):
        self.assertIs(shown_record(()), True)

    def test_right_records(self):
        self.assertIs(shown_record(self.lines), True)
        for many in range(len(self.lines) + 1):
            self.assertIs(shown_record(self.lines[:many]), True)

    def test_each_line_broken(self):
        for number, (step, machine, rows) in enumerate(self.lines):
            turned = (machine[0], tuple(not good for good in machine[1]), machine[2])
            for line in ((step, machine, rows[1:]), (step, machine, ()), (step, turned, rows),
                         (step, machine, rows + (rows[0][:-1] + (len(machine[1]),),))):
                self.assertIs(shown_record(self.lines[:number] + (line,) + self.lines[number + 1:]), False)
                self.assertIs(shown_record(self.lines[:number] + (line,)), False)

    def test_a_line_without_those_that_it_names(self):
        self.assertIs(shown_record(self.lines[-1:]), False)

    def test_numbers_that_are_not_of_a_line_ahead(self):
        base = same_line(("in", "A", "B"), base_of(("in", "A", "B")))
        made, rows = flipped(base[1])
        pair = both(base[1], base[1])
        bare = hidden(base[1], "A")
        self.assertIs(shown_record((base, (("not", 0), made, rows))), True)
        self.assertIs(shown_record((base, (("and", 0, 0),) + pair)), True)
        self.assertIs(shown_record((base, (("hide", "A", 0),) + bare)), True)
        for number in (1, 2, 3, -1, -2, -3, 10 ** 30, -10 ** 30):
            for line in ((("not", number), made, rows), (("and", number, 0),) + pair, (("and", 0, number),) + pair,
                         (("or", number, 0),) + pair, (("or", 0, number),) + pair, (("hide", "A", number),) + bare):
                self.assertIs(shown_record((base, line)), False, line[0])
                self.assertIs(shown_record((base, line, base)), False, line[0])
                self.assertIs(shown_record((base, line, same_line(("one", "x"), base_of(("one", "x"))))), False)

    def test_a_line_that_names_itself_with_a_paper_that_would_show_it(self):
        # Rows that tie a machine to itself would show the word, if the line were there ahead of itself.
        machine = ONE_ROOM
        self.assertIs(shown_record(((("and", 0, 0), machine, ((0, 0, 0),)),)), False)
        self.assertIs(shown_record(((("or", 0, 0), machine, ((0, 0, 0),)),)), False)
        self.assertIs(shown_record(((("hide", "x", 0), machine, (((0,), 0),)),)), False)
        self.assertIs(shown_record(((("hide", "x", -1), machine, (((0,), 0),)),)), False)

    def test_a_plain_line_is_tied_to_its_base(self):
        for plain in PLAIN:
            base = base_of(plain)
            self.assertIs(shown_record((same_line(plain, base),)), True)
            self.assertIs(shown_record((((plain,) + least_of(base)),)), True)
            turned = (base[0], tuple(not good for good in base[1]), base[2])
            self.assertIs(shown_record((same_line(plain, turned),)), False)
        self.assertIs(shown_record((same_line(("left", "x", "A"), base_of(("right", "x", "A"))),)), False)
        self.assertIs(shown_record((same_line(("in", "x", "A"), base_of(("in", "A", "x"))),)), False)

    def test_each_word_by_itself(self):
        one = same_line(("one", "x"), base_of(("one", "x")))
        other = same_line(("in", "x", "x"), base_of(("in", "x", "x")))
        pair = {"and": both(one[1], other[1]), "or": either(one[1], other[1])}
        for word in ("and", "or"):
            for step in ("and", "or"):
                self.assertIs(shown_record((one, other, ((step, 0, 1),) + pair[word])), step == word)
        self.assertIs(shown_record((one, other, (("and", 1, 0),) + pair["and"])), False)
        self.assertIs(shown_record((one, (("not", 0),) + flipped(one[1]))), True)
        self.assertIs(shown_record((one, (("not", 0),) + least_of(one[1]))), False)
        self.assertIs(shown_record((one, (("hide", "x", 0),) + hidden(one[1], "x"))), True)
        self.assertIs(shown_record((one, (("hide", "y", 0),) + hidden(one[1], "x"))), False)

    def test_machines_that_are_not_the_least_ones(self):
        machine = base_of(("below", "x", "A"))
        wide = (machine[0], machine[1] + (True,), tuple(
            tuple(row + (0,) for row in leads) + ((0,) * 3,) for leads in machine[2]))
        line = (("below", "x", "A"), wide, ((0, 0), (1, 1)))
        turned = (wide[0], tuple(not good for good in wide[1]), wide[2])
        self.assertIs(shown_record((line, (("not", 0), turned, ((0, 0), (1, 1))))), True)
        self.assertIs(shown_record((line, (("not", 0), turned, ((0, 0), (1, 1), (2, 2))))), True)
        self.assertIs(shown_record((line, (("hide", "M", 0), wide, (((0,), 0), ((1,), 1))))), True)

    def test_a_record_that_is_none_of_a_statement(self):
        one = same_line(("one", "x"), base_of(("one", "x")))
        other = same_line(("one", "A"), base_of(("one", "A")))
        turned = (("not", 0),) + flipped(one[1])
        pair = (("or", 2, 0),) + either(turned[1], one[1])
        self.assertIs(shown_record((one, other, turned, pair, one)), True)
        self.assertEqual(least_of(pair[1])[0], idle("x"))

    def test_refused_where_a_look_is(self):
        many = (("in", "A", "A"), ONE_ROOM, ((0, 0),) * 142)
        self.assertEqual(142 ** 2 * 2, 40328)
        check_refused(self, "TooGreat", shown_record, (many,))
        base = same_line(("in", "A", "A"), base_of(("in", "A", "A")))
        check_refused(self, "TooGreat", shown_record, (base, many))
        check_refused(self, "TooGreat", shown_record, (base, (("not", 0), ONE_ROOM, ((0, 0),) * 142)))
        check_refused(self, "TooGreat", shown_record, (base, (("and", 0, 0), ONE_ROOM, ((0, 0, 0),) * 142)))
        check_refused(self, "TooGreat", shown_record, (base, (("hide", "A", 0), ONE_ROOM, (((0,), 0),) * 201)))
        check_refused(self, "TooGreat", shown_record, (base, (("hide", "x", 0), idle("BCDEFGHIJKLMN"), (((0,), 0),))))

    def test_a_bad_paper_ahead_of_a_refused_one_and_behind_it(self):
        bad = (("in", "A", "A"), base_of(("in", "A", "A")), ((0, 0), (1, 0)))
        great = (("in", "A", "A"), ONE_ROOM, ((0, 0),) * 142)
        unknown = (("not", 7), ONE_ROOM, ((0, 0),))
        greatly_unknown = (("not", 7), ONE_ROOM, ((0, 0),) * 300)
        self.assertIs(shown_record((bad,)), False)
        self.assertIs(shown_record((bad, great)), False)
        check_refused(self, "TooGreat", shown_record, (great, bad))
        self.assertIs(shown_record((unknown, great)), False)
        check_refused(self, "TooGreat", shown_record, (great, unknown))
        self.assertIs(shown_record((greatly_unknown,)), False)
        self.assertIs(shown_record((greatly_unknown, great)), False)

    def test_many_lines(self):
        base = same_line(("in", "A", "B"), base_of(("in", "A", "B")))
        lines = [base]
        for number in range(400):
            lines.append((("not", number),) + flipped(lines[-1][1]))
        self.assertIs(shown_record(tuple(lines)), True)
        self.assertIs(shown_record(tuple(lines[1:])), False)

    def test_other_machines(self):
        chance = random.Random(310)
        answers = []
        for _ in range(200):
            machine = random_machine(chance, "A", 2)
            line = (("one", "A"), base_of(("one", "A")), ((0, 0), (1, 1), (2, 2)))
            made, rows = chance.choice((flipped(line[1]), (machine, flipped(line[1])[1]), flipped(machine)))
            answers.append(shown_record((line, (("not", 0), made, rows))))
            expected = all(let_by_words(made, tree) != let_by_words(line[1], tree)
                           for size in range(4) for tree in ordered_trees(size, "A"))
            if answers[-1]:
                self.assertTrue(expected)
        self.assertTrue(30 < answers.count(True) < 150)

    def test_the_greatest_looks_that_are_not_refused(self):
        self.assertEqual(141 ** 2 * 2, 39762)
        self.assertIs(shown_record(((("in", "A", "A"), idle("A"), ((0, 0),) * 141),)), True)
        self.assertIs(shown_record(((("in", "A", "A"), idle("A"), ((0, 0),) * 140 + ((1, 0),)),)), False)


if __name__ == "__main__":
    unittest.main()
