import random
import unittest

from trunksay.bases import base_of
from trunksay.firsts import first_tree, firsts_of
from trunksay.order import comes_ahead
from trunksay.runs import rooms_of

from tests.helping import (EDGES, ONE_ROOM, check_refused, every_machine, is_plain, machine_by, ordered_trees,
                           random_machine, rooms_come_to, rows_by_keys)


def first_by_listing(machine, room, most):
    """The first tree that comes to the room, of all trees of at most so many places, or None."""
    for size in range(most + 1):
        for tree in ordered_trees(size, machine[0]):
            if (rooms_of(machine, tree)[-1] if tree else 0) == room:
                return tree
    return None


def towers(rooms):
    """To room i + 1 comes just what has two branches of room i: full trees."""
    return machine_by("", [True] * rooms, lambda letter, left, right:
                      left + 1 if left == right and left + 1 < rooms else 0)


class Rows(unittest.TestCase):
    def test_one_room(self):
        self.assertEqual(firsts_of(ONE_ROOM), ((0, 0, ()),))
        self.assertEqual(firsts_of(machine_by("ABC", [False], lambda letter, left, right: 0)), ((0, 0, ()),))

    def test_bases(self):
        self.assertEqual(firsts_of(base_of(("in", "A", "B"))), ((0, 0, ()), (1, 1, (0, 0, 2))))
        self.assertEqual(firsts_of(base_of(("one", "x"))), ((0, 0, ()), (1, 1, (0, 0, 1)), (2, 2, (0, 1, 1))))

    def test_rooms_to_which_no_tree_comes(self):
        machine = machine_by("A", [True] * 5, lambda letter, left, right: 2 if 0 in (left, right) else 4)
        self.assertEqual(firsts_of(machine), ((0, 0, ()), (2, 1, (0, 0, 0)), (4, 3, (2, 2, 0))))
        for room, tree in ((0, ()), (1, None), (2, ((0, ""),)), (3, None), (4, ((0, ""), (0, ""), (3, "")))):
            self.assertEqual(first_tree(machine, room), tree)

    def test_two_first_trees_of_one_size(self):
        right_then_left = machine_by("", [True] * 4, lambda letter, left, right:
                                     {(0, 0): 3, (3, 0): 1, (0, 3): 2}.get((left, right), 0))
        self.assertEqual(firsts_of(right_then_left), ((0, 0, ()), (3, 1, (0, 0, 0)), (2, 2, (0, 3, 0)), (1, 2, (3, 0, 0))))
        by_marks = machine_by("Ax", [True] * 4, lambda letter, left, right: 3 - letter)
        self.assertEqual(firsts_of(by_marks), ((0, 0, ()), (3, 1, (0, 0, 0)), (2, 1, (0, 0, 1)), (1, 1, (0, 0, 2))))
        self.assertEqual([first_tree(by_marks, room) for room in range(4)],
                         [(), ((0, "A"),), ((0, "x"),), ((0, ""),)])

    def test_the_left_branch_is_looked_at_ahead_of_the_right_one_and_of_marks(self):
        # Rooms 1 and 2 are leaves without and with A. Forks: room 3 with marks, room 4 with the greater left leaf.
        machine = machine_by("A", [True] * 5, lambda letter, left, right:
                             {(0, 0, 0): 1, (1, 0, 0): 2, (1, 1, 2): 3, (0, 2, 1): 4}.get((letter, left, right), 0))
        self.assertEqual(firsts_of(machine)[-2:], ((3, 3, (1, 2, 1)), (4, 3, (2, 1, 0))))

    def test_the_first_of_many_ways(self):
        machine = machine_by("Ax", [True] * 3, lambda letter, left, right:
                             1 if left == right == 0 else 2 if letter in (1, 3) else 1)
        self.assertEqual(firsts_of(machine), ((0, 0, ()), (1, 1, (0, 0, 0)), (2, 2, (0, 1, 1))))

    def test_sizes_far_above_100(self):
        rows = firsts_of(towers(100))
        self.assertEqual(rows, ((0, 0, ()),) + tuple((room, 2 ** room - 1, (room - 1, room - 1, 0))
                                                     for room in range(1, 100)))
        self.assertTrue(is_plain(rows))

    def test_all_machines_of_two_rooms_against_a_list_of_all_small_trees(self):
        for names in ("", "A"):
            for machine in list(every_machine(names, 2))[::2]:
                self.check_against_list(machine, 3)

    def test_against_a_list_of_all_small_trees(self):
        chance = random.Random(22)
        for names, rooms, most in (("", 3, 6), ("", 5, 7), ("A", 3, 4), ("A", 4, 5), ("Ax", 4, 3), ("Ax", 6, 3)):
            for _ in range(25):
                self.check_against_list(random_machine(chance, names, rooms), most)

    def check_against_list(self, machine, most):
        found = {}
        for room in range(len(machine[1])):
            tree = first_by_listing(machine, room, most)
            if tree is not None:
                found[room] = tree
        rows = firsts_of(machine)
        self.assertEqual(rows[0], (0, 0, ()))
        self.assertEqual({room for room, size, why in rows if size <= most}, set(found))
        for (one, _, _), (other, _, _) in zip(rows, rows[1:]):
            if other in found:
                self.assertIs(comes_ahead(found[one], found[other]), True)
        for room, tree in found.items():
            self.assertEqual(first_tree(machine, room), tree)

    def test_against_a_second_reckoning(self):
        chance = random.Random(23)
        for names, rooms in (("", 8), ("", 12), ("A", 6), ("A", 10), ("Bx", 7), ("ABx", 5), ("ABxy", 8)):
            for _ in range(40):
                machine = random_machine(chance, names, rooms)
                rows = firsts_of(machine)
                self.assertEqual(rows, rows_by_keys(machine))
                self.assertEqual(sorted(row[0] for row in rows), rooms_come_to(machine))
                self.assertTrue(is_plain(rows))

    def test_great_machines(self):
        for names, rooms in (("", 100), ("ABCD", 25), ("ABCDEFGHIJKLM", 1), ("ABCDEFGH", 6)):
            machine = machine_by(names, [True] * rooms, lambda letter, left, right:
                                 (left * 3 + right * 5 + letter * 7 + 1) % rooms)
            rows = firsts_of(machine)
            self.assertEqual(sorted(row[0] for row in rows), rooms_come_to(machine))


class FirstTrees(unittest.TestCase):
    def test_exactly_100_and_101_places(self):
        sizes = {room: size for room, size, _ in firsts_of(EDGES)}
        self.assertEqual((sizes[50], sizes[51], sizes[52]), (50, 100, 101))
        tree = first_tree(EDGES, 51)
        self.assertEqual(len(tree), 100)
        self.assertEqual(rooms_of(EDGES, tree)[-1], 51)
        self.assertEqual(tree, ((0, ""),) + ((1, ""),) * 49 + ((0, ""),) + ((1, ""),) * 48 + ((3, ""),))
        check_refused(self, "TooGreat", first_tree, EDGES, 52)
        self.assertIsNone(first_tree(EDGES, 53))

    def test_far_too_great(self):
        machine = towers(100)
        self.assertEqual(len(first_tree(machine, 6)), 63)
        for room in (7, 8, 99):
            check_refused(self, "TooGreat", first_tree, machine, room)

    def test_none_though_other_first_trees_are_too_great(self):
        machine = machine_by("", [True] * 10, lambda letter, left, right: left + 1 if left == right < 8 else 0)
        self.assertIsNone(first_tree(machine, 9))
        check_refused(self, "TooGreat", first_tree, machine, 8)

    def test_marks_are_told_over_the_names(self):
        machine = machine_by("Bxz", [True] * 8, lambda letter, left, right: letter)
        self.assertEqual([first_tree(machine, room) for room in range(8)],
                         [(), ((0, "z"),), ((0, "x"),), ((0, "xz"),), ((0, "B"),), ((0, "Bz"),), ((0, "Bx"),),
                          ((0, "Bxz"),)])

    def test_each_first_tree_comes_to_its_room(self):
        chance = random.Random(24)
        for _ in range(60):
            machine = random_machine(chance, chance.choice(("", "A", "Ax")), chance.randrange(1, 9))
            for room, size, _ in firsts_of(machine):
                if size > 100:
                    check_refused(self, "TooGreat", first_tree, machine, room)
                else:
                    tree = first_tree(machine, room)
                    self.assertTrue(is_plain(tree))
                    self.assertEqual(len(tree), size)
                    self.assertEqual(rooms_of(machine, tree)[-1] if tree else 0, room)


if __name__ == "__main__":
    unittest.main()
