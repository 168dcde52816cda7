import random
import unittest

from trunksay.bases import base_of
from trunksay.counts import counted, counts_of

from tests.helping import (NEVER, ONE_ROOM, PARITY, THIRTEEN, check_refused, every_machine, idle, is_plain, left_deep,
                           machine_by, nested, ordered_trees, random_machine, room_by_words)

SHAPES_MANY = [1]
while len(SHAPES_MANY) < 25:
    SHAPES_MANY.append(sum(one * other for one, other in zip(SHAPES_MANY, reversed(SHAPES_MANY))))


class Counts(unittest.TestCase):
    def check_against_list(self, machine, most):
        for size in range(most + 1):
            many = [0] * len(machine[1])
            for tree in ordered_trees(size, machine[0]):
                many[room_by_words(machine, nested(tree))] += 1
            self.assertEqual(counts_of(machine, size), tuple(many))
            self.assertEqual(counted(machine, size), sum(each for each, good in zip(many, machine[1]) if good))

    def test_the_empty_tree(self):
        for machine in (ONE_ROOM, idle("Ax", 4), left_deep("A", 3)):
            self.assertEqual(counts_of(machine, 0), (1,) + (0,) * (len(machine[1]) - 1))
        self.assertEqual(counted(ONE_ROOM, 0), 1)
        self.assertEqual(counted(NEVER, 0), 0)
        self.assertEqual(counted(base_of(("one", "x")), 0), 0)

    def test_size_1(self):
        self.assertEqual(counts_of(machine_by("Ax", [True] * 4, lambda letter, left, right: 3 - letter), 1), (1, 1, 1, 1))
        self.assertEqual(counts_of(base_of(("in", "A", "B")), 1), (3, 1))
        self.assertEqual(counted(base_of(("in", "A", "B")), 1), 3)

    def test_bases(self):
        self.assertEqual(counts_of(base_of(("one", "x")), 2), (2, 4, 2))
        for size in range(25):
            self.assertEqual(counted(base_of(("one", "x")), size), size * SHAPES_MANY[size])
            self.assertEqual(counted(base_of(("in", "A", "B")), size), 3 ** size * SHAPES_MANY[size])

    def test_rooms_to_which_no_tree_comes(self):
        self.assertEqual(counts_of(idle("", 3), 5), (42, 0, 0))
        self.assertTrue(is_plain(counts_of(idle("A", 3), 5)))

    def test_24_places(self):
        self.assertEqual(SHAPES_MANY[24], 1289904147324)
        self.assertEqual(counts_of(ONE_ROOM, 24), (1289904147324,))
        self.assertEqual(counted(NEVER, 24), 0)
        self.assertEqual(counted(idle(THIRTEEN), 24), 1289904147324 * 8192 ** 24)
        self.assertEqual(counts_of(left_deep("", 100), 24)[24], 1)
        self.assertEqual(sum(counts_of(left_deep("", 100), 24)), 1289904147324)
        self.assertEqual(sum(counts_of(PARITY, 24)), 1289904147324)

    def test_25_places_and_more(self):
        for function in (counts_of, counted):
            for machine in (ONE_ROOM, NEVER, left_deep("", 100)):
                for size in (25, 26, 1000, 10 ** 30, 10 ** 5000):
                    check_refused(self, "TooGreat", function, machine, size)

    def test_all_machines_of_two_rooms(self):
        for machine in list(every_machine("A", 2))[::5]:
            self.check_against_list(machine, 3)

    def test_against_a_list_of_all_small_trees(self):
        chance = random.Random(320)
        for names, most in (("", 6), ("A", 4), ("Bx", 3), ("ABx", 2)):
            for _ in range(10):
                self.check_against_list(random_machine(chance, names, chance.randrange(1, 6)), most)


if __name__ == "__main__":
    unittest.main()
