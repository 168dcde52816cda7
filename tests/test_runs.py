import itertools
import random
import unittest

from trunksay.names import ALL_LETTERS
from trunksay.runs import lets_by, rooms_of

from tests.helping import (ONE_ROOM, bushy, chain, is_plain, machine_by, nested, ordered_trees, random_machine,
                           room_by_words, trees_over)


def nodes_of(node):
    """All nodes of a nested tree, by the numbers of their places."""
    if node is None:
        return {}
    return {**nodes_of(node[0]), **nodes_of(node[1]), node[3]: node}


class Rooms(unittest.TestCase):
    def check(self, machine, tree):
        nodes = nodes_of(nested(tree))
        expected = tuple(room_by_words(machine, nodes[number]) for number in range(len(tree)))
        rooms = rooms_of(machine, tree)
        self.assertEqual(rooms, expected)
        self.assertTrue(is_plain(rooms))
        self.assertIs(lets_by(machine, tree), machine[1][expected[-1] if tree else 0])

    def test_the_empty_tree(self):
        for good in ((True, False), (False, True)):
            machine = machine_by("A", good, lambda letter, left, right: 1)
            self.assertEqual(rooms_of(machine, ()), ())
            self.assertIs(lets_by(machine, ()), good[0])

    def test_left_room_then_right_room(self):
        machine = machine_by("A", [False, True, False], lambda letter, left, right:
                             1 if (letter, left, right) == (0, 0, 0) else 2 if (left, right) == (1, 0) else 0)
        self.assertEqual(rooms_of(machine, ((0, ""), (1, ""))), (1, 2))
        self.assertEqual(rooms_of(machine, ((0, ""), (2, ""))), (1, 0))
        self.assertEqual(rooms_of(machine, ((0, ""), (0, "A"), (3, ""))), (1, 0, 2))
        self.assertEqual(rooms_of(machine, ((0, "A"), (0, ""), (3, ""))), (0, 1, 0))
        self.assertIs(lets_by(machine, ((0, ""),)), True)
        self.assertIs(lets_by(machine, ((0, "A"),)), False)

    def test_letters_that_are_no_names(self):
        machine = machine_by("Mx", [True] * 4, lambda letter, left, right: letter)
        for marks, room in (("", 0), ("AZaz", 0), ("Axz", 1), ("AMNw", 2), (ALL_LETTERS, 3), ("Mx", 3)):
            self.assertEqual(rooms_of(machine, ((0, marks),)), (room,))
        self.assertEqual(rooms_of(ONE_ROOM, chain(3, "left", ALL_LETTERS)), (0, 0, 0))

    def test_trees_of_100_places(self):
        for side in ("left", "right"):
            machine = machine_by("A", [room == 50 for room in range(70)], lambda letter, left, right:
                                 min((left if side == "left" else right) + letter, 69))
            tree = tuple((branches, "A" if number % 2 == 1 else "B")
                         for number, (branches, _) in enumerate(chain(100, side)))
            self.assertEqual(rooms_of(machine, tree), tuple((number + 1) // 2 for number in range(100)))
            self.assertIs(lets_by(machine, tree), True)
            self.assertIs(lets_by(machine, tree[:98]), False)
            other = "right" if side == "left" else "left"
            self.assertEqual(rooms_of(machine, chain(100, other, "A")), (1,) * 100)

    def test_a_bushy_tree(self):
        tree = bushy(100, itertools.cycle(("A", "", "Bx", "Ax", "y")))
        self.assertEqual(len(tree), 100)
        chance = random.Random(19)
        for _ in range(20):
            self.check(random_machine(chance, "Ax", 5), tree)

    def test_all_small_trees(self):
        chance = random.Random(18)
        for names in ("", "A", "Ax"):
            for rooms in (1, 2, 5):
                machine = random_machine(chance, names, rooms)
                for size in range(4):
                    for tree in trees_over(size, ("", "A", "Bx")):
                        self.check(machine, tree)
                for tree in ordered_trees(2, "ABx"):
                    self.check(machine, tree)


if __name__ == "__main__":
    unittest.main()
