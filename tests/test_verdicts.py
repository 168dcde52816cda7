import random
import unittest

from trunksay.bases import base_of
from trunksay.firsts import firsts_of
from trunksay.verdicts import always_lets, ever_lets, first_let

from tests.helping import (EDGES, NEVER, ONE_ROOM, check_refused, every_machine, idle, is_plain, left_deep, let_by_words,
                           machine_by, ordered_trees, random_machine)


def good_in(machine, rooms):
    return (machine[0], tuple(room in rooms for room in range(len(machine[1]))), machine[2])


def bad_in(machine, rooms):
    return (machine[0], tuple(room not in rooms for room in range(len(machine[1]))), machine[2])


class Verdicts(unittest.TestCase):
    def test_one_room(self):
        self.assertEqual(first_let(ONE_ROOM), ())
        self.assertEqual(always_lets(ONE_ROOM), ("always", ((0, 0, ()),)))
        self.assertEqual(ever_lets(ONE_ROOM), ("some", ()))
        self.assertIsNone(first_let(NEVER))
        self.assertEqual(always_lets(NEVER), ("not", ()))
        self.assertEqual(ever_lets(NEVER), ("never", ((0, 0, ()),)))

    def test_bases(self):
        self.assertEqual(first_let(base_of(("one", "x"))), ((0, "x"),))
        self.assertEqual(always_lets(base_of(("one", "x"))), ("not", ()))
        self.assertEqual(ever_lets(base_of(("one", "x"))), ("some", ((0, "x"),)))
        machine = base_of(("in", "A", "B"))
        self.assertEqual(first_let(machine), ())
        self.assertEqual(always_lets(machine), ("not", ((0, "A"),)))
        self.assertEqual(ever_lets(machine), ("some", ()))

    def test_rows_for_all_rooms(self):
        machine = idle("Ax", 3)
        self.assertEqual(always_lets(machine), ("always", ((0, 0, ()),)))
        machine = machine_by("A", [True] * 5, lambda letter, left, right: 2 if 0 in (left, right) else 4)
        rows = ((0, 0, ()), (2, 1, (0, 0, 0)), (4, 3, (2, 2, 0)))
        self.assertEqual(always_lets(machine), ("always", rows))
        self.assertEqual(ever_lets(good_in(machine, ())), ("never", rows))

    def test_rooms_to_which_no_tree_comes(self):
        machine = machine_by("A", [True] * 5, lambda letter, left, right: 2 if 0 in (left, right) else 4)
        self.assertEqual(always_lets(bad_in(machine, (1, 3)))[0], "always")
        self.assertEqual(ever_lets(good_in(machine, (1, 3)))[0], "never")
        self.assertIsNone(first_let(good_in(machine, (1, 3))))

    def test_the_first_of_several_rooms(self):
        right_then_left = machine_by("", [True] * 4, lambda letter, left, right:
                                     {(0, 0): 3, (3, 0): 1, (0, 3): 2}.get((left, right), 0))
        self.assertEqual(first_let(good_in(right_then_left, (1, 2))), ((0, ""), (2, "")))
        self.assertEqual(first_let(good_in(right_then_left, (1,))), ((0, ""), (1, "")))
        self.assertEqual(first_let(good_in(right_then_left, (1, 2, 3))), ((0, ""),))
        self.assertEqual(always_lets(bad_in(right_then_left, (1, 2))), ("not", ((0, ""), (2, ""))))

    def test_exactly_100_places_and_101(self):
        told = first_let(good_in(EDGES, (51,)))
        self.assertEqual(len(told), 100)
        self.assertEqual(ever_lets(good_in(EDGES, (51,))), ("some", told))
        self.assertEqual(always_lets(bad_in(EDGES, (51,))), ("not", told))
        for function, machine in ((first_let, good_in(EDGES, (52,))), (ever_lets, good_in(EDGES, (52,))),
                                  (always_lets, bad_in(EDGES, (52,)))):
            check_refused(self, "TooGreat", function, machine)

    def test_rooms_that_are_not_asked_may_have_great_first_trees(self):
        self.assertEqual(len(first_let(good_in(EDGES, (51, 52)))), 100)
        self.assertEqual(always_lets(bad_in(EDGES, (0, 52))), ("not", ()))
        self.assertEqual(always_lets(EDGES), ("always", firsts_of(EDGES)))
        self.assertEqual(ever_lets(good_in(EDGES, (53,))), ("never", firsts_of(EDGES)))
        self.assertEqual(len(first_let(left_deep("", 100))), 99)

    def test_against_a_list_of_all_small_trees(self):
        chance = random.Random(340)
        machines = list(every_machine("A", 2))[::3]
        machines.extend(random_machine(chance, names, rooms) for names, rooms in (("", 4), ("A", 4), ("Bx", 4))
                        for _ in range(30))
        for machine in machines:
            trees = [tree for size in range(4) for tree in ordered_trees(size, machine[0])]
            let = [tree for tree in trees if let_by_words(machine, tree)]
            others = [tree for tree in trees if not let_by_words(machine, tree)]
            for told, found in ((first_let(machine), let), (ever_lets(machine)[1], let), (always_lets(machine)[1], others)):
                self.assertTrue(is_plain(told))
                if found:
                    self.assertEqual(told, found[0])
            if len(machine[1]) == 2:
                # Such a machine has a tree of at most one place in each room to which some tree comes.
                self.assertEqual(always_lets(machine)[0], "not" if others else "always")
                self.assertEqual(ever_lets(machine)[0], "some" if let else "never")
                self.assertEqual(first_let(machine), let[0] if let else None)


if __name__ == "__main__":
    unittest.main()
