import itertools
import random
import unittest

from trunksay.bases import base_of
from trunksay.going import holds
from trunksay.hiding import hidden, shown_hidden
from trunksay.least import least_of
from trunksay.machines import widened
from trunksay.wearing import dressed_in

from tests.helping import (NEVER, ONE_ROOM, THIRTEEN, chain, check_least, check_refused, every_machine, idle, is_plain,
                           left_deep, let_by_words, machine_by, marks_in_order, nested, ordered_trees, random_machine,
                           room_by_words)


def set_by_words(machine, letter, tree):
    """The rooms to which the tree comes in all dressings."""
    return tuple(sorted({room_by_words(machine, nested(dressed_in(tree, letter, places)))
                         for many in range(len(tree) + 1) for places in itertools.combinations(range(len(tree)), many)}))


def led_by_words(machine, letter, marks, left, right):
    """The set to which two sets lead, with the marks or with the marks and the letter."""
    order = marks_in_order(machine[0])
    return tuple(sorted({machine[2][order.index("".join(sign for sign in machine[0] if sign in both))][one][other]
                         for both in (marks, marks + letter) for one in left for other in right}))


def sets_by_words(machine, letter):
    """All sets that trees have, sorted."""
    found = set()
    fresh = {(0,)}
    while fresh:
        pairs = [(left, right) for left in found | fresh for right in found | fresh if left in fresh or right in fresh]
        found |= fresh
        fresh = {led_by_words(machine, letter, marks, left, right) for left, right in pairs
                 for marks in marks_in_order(machine[0].replace(letter, ""))} - found
    return sorted(found)


def shown_by_words(machine, letter, made, rows):
    """What the looker is to tell where it is not refused."""
    if letter in made[0]:
        return False
    for rooms, room in rows:
        if not rooms or list(rooms) != sorted(set(rooms)) or not 0 <= room < len(made[1]):
            return False
        if any(not 0 <= each < len(machine[1]) for each in rooms):
            return False
        if made[1][room] != any(machine[1][each] for each in rooms):
            return False
    for marks in marks_in_order("".join(sorted(set(machine[0] + made[0]) - {letter}))):
        number = marks_in_order(made[0]).index("".join(sign for sign in marks if sign in made[0]))
        for left in rows:
            for right in rows:
                led = led_by_words(machine, letter, marks, left[0], right[0])
                if (led, made[2][number][left[1]][right[1]]) not in rows:
                    return False
    return ((0,), 0) in rows


def clocks(names, tail, one, other):
    """The lowest place at the left end chooses by x one of two clocks, the first one going round behind a tail.
    So with x hidden there are 1 + tail + (least number that both rounds divide) sets."""
    last = tail + one
    place = len(names) - 1 - names.index("x")

    def rule(letter, left, right):
        if left == 0:
            return 1 if letter >> place & 1 else last + 1
        if left <= last:
            return left + 1 if left < last else tail + 1
        return left + 1 if left < last + other else last + 1

    return machine_by(names, [room % 3 == 1 for room in range(1 + last + other)], rule)


class Hidden(unittest.TestCase):
    def check(self, machine, letter, most=3):
        made, paper = hidden(machine, letter)
        names = machine[0].replace(letter, "")
        check_least(self, made)
        self.assertEqual(made[0], names)
        self.assertTrue(is_plain(paper))
        self.assertEqual([rooms for rooms, _ in paper], sets_by_words(machine, letter))
        self.assertEqual(list(paper), sorted(paper))
        ties = dict(paper)
        for size in range(most + 1):
            for tree in ordered_trees(size, names):
                rooms = set_by_words(machine, letter, tree)
                self.assertEqual(room_by_words(made, nested(tree)), ties[rooms])
                self.assertIs(let_by_words(made, tree), any(machine[1][room] for room in rooms))
        if len(paper) ** 2 * 2 ** len(names) <= 40000:
            self.assertIs(shown_hidden(machine, letter, made, paper), True)
        return made

    def test_one_room(self):
        self.assertEqual(hidden(ONE_ROOM, "x"), (ONE_ROOM, (((0,), 0),)))
        self.assertEqual(hidden(NEVER, "A"), (NEVER, (((0,), 0),)))
        self.assertEqual(hidden(idle("Ax", 3), "x"), (idle("A"), (((0,), 0),)))
        self.assertEqual(hidden(idle("Ax"), "A"), (idle("x"), (((0,), 0),)))
        self.assertEqual(hidden(idle("Ax"), "B"), (idle("Ax"), (((0,), 0),)))

    def test_the_only_name(self):
        # Some place: of the empty tree alone no dressing has just one x.
        made, paper = hidden(base_of(("one", "x")), "x")
        self.assertEqual(made, ("", (False, True), (((1, 1), (1, 1)),)))
        self.assertEqual(paper, (((0,), 0), ((0, 1), 1), ((0, 1, 2), 1)))

    def test_the_set_of_the_empty_tree(self):
        for machine in (base_of(("one", "x")), left_deep("x", 3), idle("x", 4)):
            for letter in "xA":
                self.assertEqual(hidden(machine, letter)[1][0][0], (0,))
        self.assertIs(let_by_words(hidden(base_of(("one", "x")), "x")[0], ()), False)

    def test_each_name_by_its_place(self):
        machine = machine_by("ABx", [room == 3 for room in range(8)], lambda letter, left, right: letter)
        by_letter = {"A": {"Bx": True}, "B": {"x": True}, "x": {"B": True}}
        for letter, marks in by_letter.items():
            made, paper = hidden(machine, letter)
            names = "ABx".replace(letter, "")
            for choice in marks_in_order(names):
                # Room 3 is that of the marks Bx.
                self.assertIs(let_by_words(made, ((0, choice),)), choice in marks, (letter, choice))
            self.assertEqual(len(paper), 5)
        self.assertEqual([rooms for rooms, _ in hidden(machine, "A")[1]], [(0,), (0, 4), (1, 5), (2, 6), (3, 7)])
        self.assertEqual([rooms for rooms, _ in hidden(machine, "B")[1]], [(0,), (0, 2), (1, 3), (4, 6), (5, 7)])
        self.assertEqual([rooms for rooms, _ in hidden(machine, "x")[1]], [(0,), (0, 1), (2, 3), (4, 5), (6, 7)])

    def test_a_letter_that_is_no_name(self):
        chance = random.Random(280)
        for _ in range(20):
            machine = random_machine(chance, chance.choice(("", "A", "Bx")), chance.randrange(1, 5))
            made, paper = hidden(machine, "M")
            least, ties = least_of(machine)
            self.assertEqual(made, least)
            self.assertEqual(paper, tuple(((room,), tie) for room, tie in ties))

    def test_rows_are_sorted_as_tuples(self):
        # The marks over AB tell which set it is, whatever is below.
        ends = ((0, 0), (0, 1), (0, 2), (1, 1))
        machine = machine_by("ABx", [False, True, False], lambda letter, left, right: ends[letter >> 1][letter & 1])
        made, paper = hidden(machine, "x")
        self.assertEqual(paper, (((0,), 0), ((0, 1), 1), ((0, 2), 0), ((1,), 1)))
        self.assertEqual(made[1], (False, True))

    def test_a_tree_that_bears_the_letter(self):
        made = hidden(base_of(("in", "A", "x")), "x")[0]
        self.assertEqual(made, idle("A"))
        made = hidden(base_of(("left", "x", "A")), "A")[0]
        for tree in (((0, "Ax"), (2, "A")), ((0, "x"), (2, ""))):
            self.assertIs(let_by_words(made, tree), False)

    def test_bases_against_the_words_of_statements(self):
        trees = [tree for size in range(4) for tree in ordered_trees(size, "A")]
        for plain in (("in", "X", "A"), ("one", "X"), ("left", "X", "A"), ("right", "A", "X"), ("below", "A", "X")):
            made = hidden(base_of(("in", "A", "A")), "X")[0]
            self.assertEqual(made, idle("A"))
            made = hidden(widened(base_of(plain), "AX"), "X")[0]
            for tree in trees:
                self.assertIs(let_by_words(made, tree), holds(("some", "X", plain), tree), (plain, tree))

    def test_all_machines_of_two_rooms(self):
        for machine in list(every_machine("x", 2))[::3]:
            self.check(machine, "x")

    def test_many_machines(self):
        chance = random.Random(281)
        for names, letter, most in (("A", "A", 5), ("Ax", "x", 3), ("Ax", "A", 3), ("ABx", "B", 2), ("ABx", "A", 2)):
            for _ in range(12):
                machine = random_machine(chance, names, chance.randrange(1, 5))
                self.check(machine, letter, most)


class Bounds(unittest.TestCase):
    def check_at(self, names, clock, sets, told):
        machine = clocks(names, *clock)
        self.assertLessEqual(len(machine[1]) ** 2 * 2 ** len(names), 10000)
        self.assertEqual(len(sets_by_words(machine, "x")), sets)
        self.assertIs(sets * sets * 2 ** (len(names) - 1) <= 10000, told)
        if told:
            made, paper = hidden(machine, "x")
            self.assertEqual(len(paper), sets)
            for size in range(101):
                rooms = {room_by_words(machine, nested(((0, marks),) + ((1, ""),) * (size - 1))) if size else 0
                         for marks in ("", "x")}
                self.assertIs(let_by_words(made, chain(size, "left")), any(machine[1][room] for room in rooms))
        else:
            check_refused(self, "TooGreat", hidden, machine, "x")

    def test_no_names_left(self):
        self.check_at("x", (9, 9, 10), 100, True)
        self.check_at("x", (10, 9, 10), 101, False)

    def test_one_name_left(self):
        self.check_at("Bx", (6, 7, 9), 70, True)
        self.check_at("Bx", (7, 7, 9), 71, False)

    def test_two_names_left(self):
        self.check_at("Bxy", (7, 6, 7), 50, True)
        self.check_at("ABx", (8, 6, 7), 51, False)

    def test_three_names_left(self):
        self.check_at("ABxy", (4, 5, 6), 35, True)
        self.check_at("ABCx", (5, 5, 6), 36, False)

    def test_100_sets_of_one_room(self):
        deep = left_deep("", 100)
        self.assertEqual(hidden(deep, "x"), (deep, tuple(((room,), room) for room in range(100))))

    def test_13_names(self):
        self.assertEqual(hidden(idle(THIRTEEN), "z"), (idle(THIRTEEN), (((0,), 0),)))
        self.assertEqual(hidden(idle(THIRTEEN), "G"), (idle(THIRTEEN.replace("G", "")), (((0,), 0),)))

    def test_far_too_great(self):
        # The rooms above 0 tell how far ago a place bore A; with x one of these places may be chosen or not.
        machine = machine_by("Ax", [room == 19 for room in range(20)], lambda letter, left, right:
                             min(left + 1, 19) if left or letter == 3 else 0)
        check_refused(self, "TooGreat", hidden, machine, "x")
        self.assertEqual(len(hidden(machine, "z")[1]), 20)


class Looker(unittest.TestCase):
    def test_a_right_paper(self):
        machine = base_of(("one", "x"))
        made, paper = hidden(machine, "x")
        self.assertIs(shown_hidden(machine, "x", made, paper), True)
        self.assertIs(shown_hidden(machine, "x", made, paper[::-1]), True)
        self.assertIs(shown_hidden(machine, "x", made, paper + paper[1:] + paper), True)

    def test_more_rows_than_trees_come_to(self):
        machine = idle("x", 3)
        rows = (((0,), 0), ((1,), 0), ((0, 2), 0), ((0, 1, 2), 0))
        self.assertIs(shown_hidden(machine, "x", ONE_ROOM, rows), True)
        self.assertIs(shown_hidden(machine, "x", idle("", 2), rows + (((1, 2), 1),)), True)

    def test_machines_that_are_not_least(self):
        made = machine_by("", [False, True, True], lambda letter, left, right: 2 if 1 in (left, right) else 1)
        machine = base_of(("one", "x"))
        self.assertEqual(sets_by_words(machine, "x"), [(0,), (0, 1), (0, 1, 2)])
        rows = (((0,), 0), ((0, 1), 1), ((0, 1, 2), 1), ((0, 1, 2), 2))
        self.assertIs(shown_hidden(machine, "x", made, rows), True)

    def test_a_letter_that_is_no_name_of_the_part(self):
        machine = left_deep("A", 3)
        rows = (((0,), 0), ((1,), 1), ((2,), 2))
        self.assertIs(shown_hidden(machine, "x", machine, rows), True)
        self.assertIs(shown_hidden(machine, "x", machine, rows[:2]), False)

    def test_the_letter_among_the_made_machines_names(self):
        self.assertIs(shown_hidden(idle("x"), "x", idle("A"), (((0,), 0),)), True)
        self.assertIs(shown_hidden(idle("x"), "x", idle("x"), (((0,), 0),)), False)
        self.assertIs(shown_hidden(ONE_ROOM, "x", idle("x"), (((0,), 0),)), False)
        self.assertIs(shown_hidden(ONE_ROOM, "x", idle("Ax"), (((0,), 0),)), False)
        self.assertIs(shown_hidden(ONE_ROOM, "A", idle("x"), (((0,), 0),)), True)

    def test_sets_that_are_none(self):
        # Nothing is good, and all leads to room 0, so that each of these rows breaks nothing else.
        machine = machine_by("x", [False] * 3, lambda letter, left, right: 0)
        made = machine_by("", [False] * 2, lambda letter, left, right: 0)
        right = (((0,), 0), ((0, 1), 1), ((0, 2), 0))
        self.assertIs(shown_hidden(machine, "x", made, right), True)
        for rooms in ((), (1, 0), (0, 0), (0, 1, 1), (2, 1), (0, 2, 1), (3,), (0, 3), (-1,), (-1, 0), (-3,),
                      (-3, -2, -1), (10 ** 30,), (-10 ** 30, 0)):
            for rows in (right + ((rooms, 0),), ((rooms, 0),) + right):
                self.assertIs(shown_hidden(machine, "x", made, rows), False, rooms)

    def test_an_empty_set_beside_rows_that_lead_to_it(self):
        machine = machine_by("x", [False], lambda letter, left, right: 0)
        self.assertIs(shown_hidden(machine, "x", NEVER, (((0,), 0), ((), 0))), False)
        self.assertIs(shown_hidden(machine, "x", NEVER, (((), 0),)), False)

    def test_numbers_that_are_none_of_the_made_machines_rooms(self):
        machine = machine_by("x", [True] * 2, lambda letter, left, right: 0)
        made = machine_by("", [True] * 2, lambda letter, left, right: 0)
        for number in (2, 3, -1, -2, 10 ** 30, -10 ** 30):
            self.assertIs(shown_hidden(machine, "x", made, (((0,), 0), ((1,), number))), False)
            self.assertIs(shown_hidden(machine, "x", made, (((0,), number), ((0,), 0))), False)
        self.assertIs(shown_hidden(machine, "x", made, (((0,), 0), ((1,), 1))), True)

    def test_the_first_row_missing(self):
        machine = machine_by("x", [True] * 2, lambda letter, left, right: 1)
        made = machine_by("", [True] * 2, lambda letter, left, right: 1)
        for rows in ((), (((1,), 1),), (((0,), 1), ((1,), 1)), (((1,), 0), ((1,), 1)), (((0, 1), 0), ((1,), 1))):
            self.assertIs(shown_hidden(machine, "x", made, rows), False)
        self.assertIs(shown_hidden(machine, "x", made, (((0,), 0), ((1,), 1))), True)

    def test_a_row_that_is_led_to_missing(self):
        machine = clocks("Ax", 1, 2, 3)
        made, paper = hidden(machine, "x")
        self.assertEqual(len(paper), 8)
        self.assertIs(shown_hidden(machine, "x", made, paper), True)
        for number in range(8):
            self.assertIs(shown_hidden(machine, "x", made, paper[:number] + paper[number + 1:]), False)

    def test_with_the_letter_and_without(self):
        # Without x all stays in room 0; a row that only the marks with x lead to is asked all the same, and so
        # the other way round.
        for way in (0, 1):
            machine = machine_by("x", [True] * 2, lambda letter, left, right: 1 if letter == way else 0)
            self.assertIs(shown_hidden(machine, "x", ONE_ROOM, (((0,), 0), ((0, 1), 0))), True)
            self.assertIs(shown_hidden(machine, "x", ONE_ROOM, (((0,), 0),)), False)
            self.assertIs(shown_hidden(machine, "x", ONE_ROOM, (((0,), 0), ((1,), 0))), False)

    def test_good_in_each_row(self):
        machine = machine_by("x", [False, True, False], lambda letter, left, right: 0)
        made = machine_by("", [False, True], lambda letter, left, right: 0)
        for rooms in ((0,), (1,), (2,), (0, 1), (0, 2), (1, 2), (0, 1, 2)):
            for room in (0, 1):
                self.assertIs(shown_hidden(machine, "x", made, (((0,), 0), (rooms, room))), (1 in rooms) == (room == 1))

    def test_names_of_the_made_machine_are_in_question(self):
        made = machine_by("B", [True, True], lambda letter, left, right: letter)
        self.assertIs(shown_hidden(idle("x"), "x", made, (((0,), 0), ((0,), 1))), True)
        self.assertIs(shown_hidden(idle("x"), "x", made, (((0,), 0),)), False)

    def test_names_of_the_part_are_in_question(self):
        machine = machine_by("Bx", [True, True], lambda letter, left, right: letter >> 1)
        self.assertIs(shown_hidden(machine, "x", ONE_ROOM, (((0,), 0), ((1,), 0))), True)
        self.assertIs(shown_hidden(machine, "x", ONE_ROOM, (((0,), 0),)), False)
        self.assertIs(shown_hidden(machine, "B", ONE_ROOM, (((0,), 0), ((0, 1), 0))), True)


class LookerBounds(unittest.TestCase):
    def test_13_and_14_names(self):
        rows = (((0,), 0),)
        self.assertIs(shown_hidden(idle(THIRTEEN), "z", idle(THIRTEEN), rows), True)
        self.assertIs(shown_hidden(idle(THIRTEEN), "A", idle("BCDEFGHIJKLMN"), rows), True)
        check_refused(self, "TooGreat", shown_hidden, idle(THIRTEEN), "z", idle("N"), rows)
        check_refused(self, "TooGreat", shown_hidden, idle("N"), "z", idle(THIRTEEN), rows)
        check_refused(self, "TooGreat", shown_hidden, idle("ABCDEFGH"), "A", idle("IJKLMNO"), ())

    def test_the_letter_is_not_in_question(self):
        rows = (((0,), 0),)
        self.assertIs(shown_hidden(idle("ABCDEFGH"), "A", idle("IJKLMN"), rows), True)
        self.assertIs(shown_hidden(idle(THIRTEEN), "z", idle("z"), rows), False)
        self.assertIs(shown_hidden(idle("z"), "z", idle(THIRTEEN), rows), True)

    def test_exactly_40000(self):
        for names, many in (("", 200), ("AB", 100), ("ABCD", 50), ("ABCDEF", 25)):
            for part in (idle(names + "x"), idle("x")):
                made = idle(names)
                rows = (((0,), 0),) * many
                self.assertEqual(many * many * 2 ** len(names), 40000)
                self.assertIs(shown_hidden(part, "x", made, rows), True)
                check_refused(self, "TooGreat", shown_hidden, part, "x", made, rows + rows[:1])

    def test_200_unlike_rows_of_great_sets(self):
        machine = idle("x", 70)
        rows = (((0,), 0),) + tuple((tuple(room for room in range(70) if room not in (one, 2)), 0) for one in range(70))
        rows = tuple(dict.fromkeys(rows + tuple((tuple(range(first, 70)), 0) for first in range(70))
                                   + tuple((tuple(range(first + 1)), 0) for first in range(60))))
        self.assertGreater(len(rows), 190)
        rows = rows[:200]
        self.assertIs(shown_hidden(machine, "x", ONE_ROOM, rows), True)

    def test_ahead_of_all_else(self):
        for row in (((), 0), ((-1,), 0), ((0,), 7), ((1, 0), 0)):
            check_refused(self, "TooGreat", shown_hidden, ONE_ROOM, "x", ONE_ROOM, (row,) * 201)
            self.assertIs(shown_hidden(ONE_ROOM, "x", ONE_ROOM, (row,) * 200), False)
            check_refused(self, "TooGreat", shown_hidden, idle(THIRTEEN), "x", idle("Nx"), (row,))


class LookerAgainstTheWords(unittest.TestCase):
    def changed(self, chance, rows, machine, made):
        rows = list(rows)
        for _ in range(chance.randrange(3)):
            deed = chance.randrange(4)
            if deed == 0 and rows:
                rows.pop(chance.randrange(len(rows)))
            elif deed == 1 and rows:
                rows.append(chance.choice(rows))
            elif deed == 2:
                rooms = tuple(chance.randrange(-1, len(machine[1]) + 1) for _ in range(chance.randrange(3)))
                rows.append((rooms, chance.randrange(-1, len(made[1]) + 1)))
            else:
                rooms = tuple(room for room in range(len(machine[1])) if chance.random() < 0.5)
                rows.append((rooms, chance.randrange(len(made[1]))))
        chance.shuffle(rows)
        return tuple(rows)

    def test_many_papers(self):
        chance = random.Random(290)
        answers = []
        for _ in range(120):
            names, letter = chance.choice((("A", "A"), ("Ax", "x"), ("Ax", "A"), ("A", "x"), ("", "x")))
            machine = random_machine(chance, names, chance.randrange(1, 4))
            made, paper = hidden(machine, letter)
            for _ in range(12):
                rows = self.changed(chance, paper, machine, made)
                other = chance.choice((made, made, made, (made[0], made[1][::-1], made[2])))
                answers.append(shown_hidden(machine, letter, other, rows))
                self.assertIs(answers[-1], shown_by_words(machine, letter, other, rows), (machine, letter, other, rows))
        self.assertTrue(answers.count(True) > 100 and answers.count(False) > 100)

    def test_any_rows(self):
        chance = random.Random(291)
        answers = []
        for _ in range(3000):
            machine = random_machine(chance, chance.choice(("x", "Ax", "A")), 2)
            made = random_machine(chance, chance.choice(("", "A", "B", "")), 2)
            rows = (((0,), 0),) + tuple((chance.choice(((0,), (1,), (0, 1))), chance.randrange(2))
                                        for _ in range(chance.randrange(5)))
            answers.append(shown_hidden(machine, "x", made, rows))
            self.assertIs(answers[-1], shown_by_words(machine, "x", made, rows))
        self.assertTrue(answers.count(True) > 50 and answers.count(False) > 50, answers.count(True))


if __name__ == "__main__":
    unittest.main()
