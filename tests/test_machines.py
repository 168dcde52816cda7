import random
import unittest

from trunksay.machines import entries_of, widened
from trunksay.names import ALL_LETTERS

from tests.helping import (ONE_ROOM, chain, check_refused, idle, is_machine, let_by_words, machine_by, nested,
                           ordered_trees, random_machine, room_by_words)

HUNDRED = machine_by("", [room == 99 for room in range(100)], lambda letter, left, right: min(left + 1, 99))


class Entries(unittest.TestCase):
    def test_one_room(self):
        self.assertEqual(entries_of(ONE_ROOM), 1)
        self.assertEqual(entries_of(idle("A")), 2)
        self.assertEqual(entries_of(idle("ABCDEFGHIJKLM")), 8192)

    def test_no_names(self):
        self.assertEqual(entries_of(idle("", 3)), 9)
        self.assertEqual(entries_of(HUNDRED), 10000)

    def test_rooms_count_twice_and_names_double(self):
        self.assertEqual(entries_of(idle("Ax", 3)), 36)
        self.assertEqual(entries_of(idle("Axyz", 25)), 10000)
        self.assertIs(type(entries_of(idle("Ax", 3))), int)


class Widened(unittest.TestCase):
    def test_to_its_own_names(self):
        chance = random.Random(20)
        for machine in (ONE_ROOM, HUNDRED, idle("Axyz", 25), random_machine(chance, "Bx", 4)):
            self.assertEqual(widened(machine, machine[0]), machine)

    def test_a_name_at_each_end_and_between(self):
        machine = ("M", (False, True), (((0, 1), (1, 1)), ((1, 0), (0, 1))))
        without, borne = machine[2]
        self.assertEqual(widened(machine, "MZ"), ("MZ", (False, True), (without, without, borne, borne)))
        self.assertEqual(widened(machine, "AM"), ("AM", (False, True), (without, borne, without, borne)))
        self.assertEqual(widened(machine, "AMz"), ("AMz", (False, True), (without, without, borne, borne) * 2))
        two = ("BY", machine[1], (without, borne, ((0, 0), (1, 0)), ((1, 1), (1, 0))))
        self.assertEqual(widened(two, "BMY"), ("BMY", machine[1], two[2][:2] * 2 + two[2][2:] * 2))

    def test_each_tree_comes_to_the_same_room(self):
        chance = random.Random(21)
        for names, more in (("", "A"), ("B", "ABc"), ("Bx", "ABx"), ("Ax", "ABx")):
            machine = random_machine(chance, names, 4)
            made = widened(machine, more)
            self.assertTrue(is_machine(made))
            self.assertEqual(made[:2], (more, machine[1]))
            for size in range(3):
                for tree in ordered_trees(size, "ABcx"):
                    node = nested(tree)
                    self.assertEqual(room_by_words(made, node), room_by_words(machine, node))
                    self.assertIs(let_by_words(made, tree), let_by_words(machine, tree))

    def test_the_most_entries(self):
        for rooms, names, more in ((25, "AB", "ABcd"), (50, "", "Ax"), (25, "", "WXYZ"), (1, "", "ABCDEFGHIJKLM")):
            machine = machine_by(names, [True] * rooms, lambda letter, left, right: (left + letter) % rooms)
            made = widened(machine, more)
            self.assertEqual(entries_of(made), rooms * rooms * 2 ** len(more))
            self.assertTrue(is_machine(made))
            self.assertEqual(room_by_words(made, nested(chain(9, "left", more))),
                             room_by_words(machine, nested(chain(9, "left", more))))
        self.assertEqual(entries_of(widened(idle("", 50), "Ax")), 10000)
        self.assertEqual(entries_of(widened(idle("ABC", 25), "ABCz")), 10000)

    def test_the_next_more(self):
        for machine, more in ((idle("", 51), "Ax"), (idle("ABC", 26), "ABCz"), (idle("ABCD", 25), "ABCDz"),
                              (HUNDRED, "a"), (idle(""), "ABCDEFGHIJKLMN"), (idle("M"), ALL_LETTERS),
                              (idle("ABCDEFGHIJKLM"), ALL_LETTERS), (ONE_ROOM, ALL_LETTERS)):
            check_refused(self, "TooGreat", widened, machine, more)
        self.assertEqual(widened(HUNDRED, ""), HUNDRED)


if __name__ == "__main__":
    unittest.main()
