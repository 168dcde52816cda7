import random
import unittest

from trunksay.alike import alike_rows, apart_tree
from trunksay.bases import base_of
from trunksay.joining import flipped
from trunksay.least import least_of
from trunksay.machines import widened
from trunksay.papers import shown
from trunksay.record import machine_of
from trunksay.saying import read_statement

from tests.helping import (EDGES, NEVER, ONE_ROOM, PARITY, THIRTEEN, check_refused, every_machine, idle, is_plain,
                           left_deep, let_by_words, machine_by, ordered_trees, pairs_come_to, random_machine,
                           rooms_come_to)


def good_in(machine, rooms):
    return (machine[0], tuple(room in rooms for room in range(len(machine[1]))), machine[2])


def first_by_listing(one, other, most):
    """The first tree of at most so many places that just one of both lets by, or None."""
    names = "".join(sorted(set(one[0] + other[0])))
    for size in range(most + 1):
        for tree in ordered_trees(size, names):
            if let_by_words(one, tree) != let_by_words(other, tree):
                return tree
    return None


class Alike(unittest.TestCase):
    def check(self, one, other, most=2):
        names = "".join(sorted(set(one[0] + other[0])))
        pairs = pairs_come_to(one, other, names)
        rows = alike_rows(one, other)
        tree = apart_tree(one, other)
        self.assertTrue(is_plain((rows, tree)))
        if all(one[1][a] == other[1][b] for a, b in pairs):
            self.assertEqual(rows, tuple(pairs))
            self.assertIsNone(tree)
            self.assertIs(shown("same", (one,), other, rows), True)
            self.assertIsNone(first_by_listing(one, other, most))
        else:
            self.assertIsNone(rows)
            self.assertNotEqual(let_by_words(one, tree), let_by_words(other, tree))
            found = first_by_listing(one, other, most)
            if found is None:
                self.assertGreater(len(tree), most)
            else:
                self.assertEqual(tree, found)
        return rows is not None

    def test_one_room(self):
        self.assertEqual(alike_rows(ONE_ROOM, ONE_ROOM), ((0, 0),))
        self.assertIsNone(apart_tree(ONE_ROOM, ONE_ROOM))
        self.assertIsNone(alike_rows(ONE_ROOM, NEVER))
        self.assertEqual(apart_tree(ONE_ROOM, NEVER), ())
        self.assertEqual(alike_rows(idle("Ax", 3), idle("B", 2)), ((0, 0),))

    def test_the_same_machine_twice(self):
        chance = random.Random(350)
        for _ in range(40):
            machine = random_machine(chance, chance.choice(("", "A", "Bx")), chance.randrange(1, 6))
            self.assertEqual(alike_rows(machine, machine), tuple((room, room) for room in rooms_come_to(machine)))
            self.assertIsNone(apart_tree(machine, machine))

    def test_a_machine_and_its_least_one(self):
        chance = random.Random(351)
        for _ in range(40):
            machine = random_machine(chance, chance.choice(("", "A", "Bx")), chance.randrange(1, 6))
            least, paper = least_of(machine)
            self.assertEqual(alike_rows(machine, least), paper)
            self.assertIsNone(alike_rows(machine, flipped(machine)[0]))
            self.assertEqual(apart_tree(machine, flipped(machine)[0]), ())

    def test_the_two_exchanged(self):
        chance = random.Random(352)
        for _ in range(60):
            one = random_machine(chance, chance.choice(("", "A")), chance.randrange(1, 4))
            other = chance.choice((random_machine(chance, "A", 2), widened(least_of(one)[0], "Ax")))
            rows = alike_rows(one, other)
            self.assertEqual(alike_rows(other, one), None if rows is None else tuple(sorted((b, a) for a, b in rows)))
            self.assertEqual(apart_tree(one, other), apart_tree(other, one))

    def test_names_of_both_put_in_order(self):
        by_x = machine_by("x", [False, True], lambda letter, left, right: letter)
        by_b = machine_by("B", [False, True], lambda letter, left, right: letter)
        # The marks x have a lesser number than B, whichever machine is the first one.
        self.assertEqual(apart_tree(by_x, by_b), ((0, "x"),))
        self.assertEqual(apart_tree(by_b, by_x), ((0, "x"),))
        self.assertIsNone(alike_rows(by_x, by_b))
        wide = widened(by_x, "Axz")
        self.assertEqual(alike_rows(wide, by_x), ((0, 0), (1, 1)))
        by_z = machine_by("xz", [False, True], lambda letter, left, right: letter & 1)
        self.assertEqual(apart_tree(wide, by_z), ((0, "z"),))

    def test_rooms_to_which_no_tree_comes(self):
        machine = machine_by("", [True, False], lambda letter, left, right: 0)
        self.assertEqual(alike_rows(machine, ONE_ROOM), ((0, 0),))
        self.assertIsNone(apart_tree(machine, ONE_ROOM))

    def test_statements(self):
        def told(one, other):
            return apart_tree(machine_of(read_statement(one)), machine_of(read_statement(other)))

        self.assertIsNone(told("A in B", "all x ( not x in A or x in B )"))
        self.assertEqual(told("A left B", "A right B"), ((0, "A"), (2, "B")))
        self.assertEqual(told("A left B", "A below B"), ((0, "A"), (2, "B")))
        self.assertEqual(told("one A", "some x x in A"), ((0, "A"), (2, "A")))
        self.assertEqual(told("some X X in A", "some x x in A"), ())

    def test_all_machines_of_two_rooms_without_names(self):
        machines = list(every_machine("", 2))[::3]
        alike = [self.check(one, other, 4) for one in machines for other in machines]
        self.assertIn(True, alike)

    def test_many_machines(self):
        chance = random.Random(353)
        alike = []
        for one_names, other_names, most in (("", "", 6), ("A", "", 4), ("A", "A", 4), ("B", "A", 3), ("Bx", "x", 3)):
            for _ in range(25):
                one = random_machine(chance, one_names, chance.randrange(1, 5))
                other = random_machine(chance, other_names, chance.randrange(1, 4))
                alike.append(self.check(one, other, most))
                near = (one[0], one[1][:-1] + (chance.random() < 0.5,), one[2])
                alike.append(self.check(one, near, most))
        self.assertTrue(alike.count(True) > 20 and alike.count(False) > 20)

    def test_a_difference_far_up(self):
        deep = left_deep("A", 12)
        other = (deep[0], (False,) * 12, deep[2])
        self.assertEqual(apart_tree(deep, other), ((0, "A"),) + ((1, "A"),) * 10)


class Bounds(unittest.TestCase):
    def check_at(self, one, other, rows, told):
        names = "".join(sorted(set(one[0] + other[0])))
        self.assertEqual(len(pairs_come_to(one, other, names)), rows)
        self.assertIs(rows * rows * 2 ** len(names) <= 10000, told)
        for parts in ((one, other), (other, one)):
            if told:
                self.assertIsNone(alike_rows(*parts))
                self.assertEqual(apart_tree(*parts), first_by_listing(one, other, 2))
            else:
                check_refused(self, "TooGreat", alike_rows, *parts)
                check_refused(self, "TooGreat", apart_tree, *parts)

    def test_exactly_10000(self):
        # The parity lets the tree of one place by, which the others don't: a difference that is met at once.
        self.check_at(left_deep("", 99), PARITY, 100, True)
        self.check_at(left_deep("", 100), PARITY, 101, False)
        self.check_at(left_deep("A", 25), left_deep("B", 2), 50, True)
        self.check_at(left_deep("A", 17), left_deep("B", 3), 51, False)

    def test_where_both_are_alike(self):
        deep = left_deep("", 100)
        self.assertEqual(alike_rows(deep, deep), tuple((room, room) for room in range(100)))
        self.assertIsNone(apart_tree(deep, deep))
        one = (*deep[:1], (True,) * 100, deep[2])
        other = (PARITY[0], (True, True), PARITY[2])
        check_refused(self, "TooGreat", alike_rows, one, other)
        check_refused(self, "TooGreat", apart_tree, one, other)

    def test_13_and_14_names(self):
        self.assertEqual(alike_rows(idle("ABCDEFG"), idle("HIJKLM")), ((0, 0),))
        self.assertIsNone(apart_tree(idle(THIRTEEN), idle("AM")))
        self.assertEqual(apart_tree(idle(THIRTEEN), NEVER), ())
        for one, other in ((idle("ABCDEFG"), idle("HIJKLMN")), (idle(THIRTEEN), idle("z")),
                           (idle(THIRTEEN), idle("NOPQRSTUVWXYZ"))):
            check_refused(self, "TooGreat", alike_rows, one, other)
            check_refused(self, "TooGreat", apart_tree, one, other)

    def test_exactly_100_places_and_101(self):
        never = good_in(EDGES, ())
        for one, other in ((good_in(EDGES, (51,)), NEVER), (never, good_in(EDGES, (51, 52)))):
            tree = apart_tree(one, other)
            self.assertEqual(len(tree), 100)
            self.assertNotEqual(let_by_words(one, tree), let_by_words(other, tree))
            self.assertIsNone(alike_rows(one, other))
        for one, other in ((good_in(EDGES, (52,)), NEVER), (good_in(EDGES, (51,)), good_in(EDGES, (51, 52)))):
            check_refused(self, "TooGreat", apart_tree, one, other)
            check_refused(self, "TooGreat", apart_tree, other, one)
            self.assertIsNone(alike_rows(one, other))


if __name__ == "__main__":
    unittest.main()
