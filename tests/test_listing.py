import random
import unittest

from trunksay.bases import base_of
from trunksay.counts import counted
from trunksay.listing import listed, rank_of, tree_at
from trunksay.order import comes_ahead

from tests.helping import (NEVER, ONE_ROOM, THIRTEEN, chain, check_refused, every_machine, idle, is_plain, left_deep,
                           let_by_words, machine_by, ordered_trees, random_machine)

EIGHT = "ABCDEFGH"


def so_many(many):
    """Of one place just so many trees are let by."""
    return machine_by(EIGHT, [False, True], lambda letter, left, right:
                      1 if left == right == 0 and letter < many else 0)


# Chains at the left of which one place bears A: rooms 1 and 2 before and behind that place, room 3 for all else.
ONE_IN_A_CHAIN = machine_by("A", [False, False, True, False], lambda letter, left, right:
                            3 if right or left == 3 or (letter and left == 2) else 2 if letter or left == 2 else 1)


class Listing(unittest.TestCase):
    def check_against_list(self, machine, most):
        for size in range(most + 1):
            trees = ordered_trees(size, machine[0])
            let = [tree for tree in trees if let_by_words(machine, tree)]
            for number, tree in enumerate(let):
                self.assertEqual(tree_at(machine, size, number), tree)
            ahead = 0
            for tree in trees:
                self.assertEqual(rank_of(machine, tree), ahead)
                ahead += 1 if let_by_words(machine, tree) else 0
            check_refused(self, "NoNumber", tree_at, machine, size, len(let))
            if len(let) > 200:
                check_refused(self, "TooGreat", listed, machine, size)
            else:
                self.assertEqual(listed(machine, size), tuple(let))
                self.assertTrue(is_plain(listed(machine, size)))

    def test_the_empty_tree(self):
        self.assertEqual(tree_at(ONE_ROOM, 0, 0), ())
        self.assertEqual(listed(ONE_ROOM, 0), ((),))
        self.assertEqual(listed(NEVER, 0), ())
        for machine in (ONE_ROOM, NEVER, left_deep("A", 3)):
            self.assertEqual(rank_of(machine, ()), 0)

    def test_numbers_of_no_tree(self):
        check_refused(self, "NoNumber", tree_at, NEVER, 0, 0)
        for number in (-1, -2, 1, 2, 10 ** 30, -10 ** 30, 10 ** 5000, -10 ** 5000):
            check_refused(self, "NoNumber", tree_at, ONE_ROOM, 0, number)
            check_refused(self, "NoNumber", tree_at, ONE_ROOM, 1, number)
            check_refused(self, "NoNumber", tree_at, NEVER, 24, number)
        check_refused(self, "NoNumber", tree_at, ONE_ROOM, 24, 1289904147324)
        check_refused(self, "NoNumber", tree_at, ONE_ROOM, 24, -1)

    def test_too_great_ahead_of_no_number(self):
        for size in (25, 26, 10 ** 30, 10 ** 5000):
            for number in (0, -1, 10 ** 5000):
                for machine in (ONE_ROOM, NEVER):
                    check_refused(self, "TooGreat", tree_at, machine, size, number)

    def test_small_ones_by_hand(self):
        machine = base_of(("one", "x"))
        self.assertEqual(listed(machine, 1), (((0, "x"),),))
        self.assertEqual(listed(machine, 2), (((0, ""), (2, "x")), ((0, "x"), (2, "")),
                                              ((0, ""), (1, "x")), ((0, "x"), (1, ""))))
        self.assertEqual(tree_at(machine, 2, 2), ((0, ""), (1, "x")))
        self.assertEqual(rank_of(machine, ((0, ""), (1, "x"))), 2)
        self.assertEqual(rank_of(machine, ((0, ""), (1, ""))), 2)
        self.assertEqual(rank_of(machine, ((0, "x"), (1, "x"))), 4)

    def test_the_order_of_marks(self):
        machine = idle("Bx")
        self.assertEqual(listed(machine, 1), tuple(((0, marks),) for marks in ("", "x", "B", "Bx")))

    def test_all_machines_of_two_rooms(self):
        for machine in list(every_machine("", 2))[::2]:
            self.check_against_list(machine, 5)
        for machine in list(every_machine("A", 2))[::11]:
            self.check_against_list(machine, 3)

    def test_many_machines(self):
        chance = random.Random(330)
        for names, most in (("", 6), ("A", 4), ("Bx", 3), ("ABx", 2)):
            for _ in range(6):
                self.check_against_list(random_machine(chance, names, chance.randrange(1, 6)), most)

    def test_24_places(self):
        last = 1289904147323
        self.assertEqual(tree_at(ONE_ROOM, 24, 0), chain(24, "right"))
        self.assertEqual(tree_at(ONE_ROOM, 24, last), chain(24, "left"))
        self.assertEqual(rank_of(ONE_ROOM, chain(24, "left")), last)
        self.assertEqual(rank_of(NEVER, chain(24, "left")), 0)
        self.assertEqual(tree_at(idle(THIRTEEN), 24, (last + 1) * 8192 ** 24 - 1), chain(24, "left", THIRTEEN))
        self.assertEqual(rank_of(idle(THIRTEEN), chain(24, "left", THIRTEEN)), (last + 1) * 8192 ** 24 - 1)

    def test_there_and_back(self):
        chance = random.Random(331)
        for names, rooms in (("", 4), ("A", 3), ("Bx", 4), ("ABx", 6), ("", 40)):
            machine = random_machine(chance, names, rooms)
            machine = (machine[0], (True,) + machine[1][1:], machine[2])
            for size in (8, 15, 24):
                many = counted(machine, size)
                numbers = sorted(chance.randrange(many) for _ in range(4)) if many else []
                trees = [tree_at(machine, size, number) for number in numbers]
                for number, tree in zip(numbers, trees):
                    self.assertTrue(is_plain(tree))
                    self.assertEqual(len(tree), size)
                    self.assertIs(let_by_words(machine, tree), True)
                    self.assertEqual(rank_of(machine, tree), number)
                for one, other in zip(trees, trees[1:]):
                    self.assertIs(comes_ahead(one, other) or one == other, True)

    def test_neighbours(self):
        chance = random.Random(332)
        machine = base_of(("left", "A", "x"))
        many = counted(machine, 20)
        for _ in range(5):
            number = chance.randrange(many - 1)
            one, other = tree_at(machine, 20, number), tree_at(machine, 20, number + 1)
            self.assertIs(comes_ahead(one, other), True)
            self.assertEqual(rank_of(machine, other), number + 1)

    def test_ranks_of_trees_with_letters_that_are_no_names(self):
        machine = base_of(("one", "x"))
        for size in range(4):
            for tree in ordered_trees(size, "x"):
                for more in ("A", "Az", "Z"):
                    dressed = tuple((branches, "".join(sorted(marks + more))) for branches, marks in tree)
                    self.assertEqual(rank_of(machine, dressed), rank_of(machine, tree))

    def test_ranks_of_25_places(self):
        for machine in (ONE_ROOM, NEVER, idle("A")):
            for size in (25, 26, 100):
                check_refused(self, "TooGreat", rank_of, machine, chain(size, "left"))
        self.assertEqual(rank_of(idle("A"), chain(24, "right", "z")), 0)


class All(unittest.TestCase):
    def test_exactly_200_and_201(self):
        trees = listed(so_many(200), 1)
        self.assertEqual(trees, tuple(ordered_trees(1, EIGHT)[:200]))
        self.assertEqual(counted(so_many(201), 1), 201)
        check_refused(self, "TooGreat", listed, so_many(201), 1)
        check_refused(self, "TooGreat", listed, ONE_ROOM, 24)
        self.assertEqual(len(listed(ONE_ROOM, 6)), 132)
        check_refused(self, "TooGreat", listed, ONE_ROOM, 7)

    def test_25_places_though_there_is_no_tree(self):
        for size in (25, 26, 10 ** 30, 10 ** 5000):
            for machine in (ONE_ROOM, NEVER):
                check_refused(self, "TooGreat", listed, machine, size)

    def test_few_among_very_many(self):
        self.assertEqual(listed(NEVER, 24), ())
        trees = listed(ONE_IN_A_CHAIN, 24)
        self.assertEqual(len(trees), 24)
        for number, tree in enumerate(trees):
            marks = ["A" if place == 23 - number else "" for place in range(24)]
            self.assertEqual(tree, tuple((1 if place else 0, each) for place, each in enumerate(marks)))
            self.assertEqual(tree_at(ONE_IN_A_CHAIN, 24, number), tree)
            self.assertEqual(rank_of(ONE_IN_A_CHAIN, tree), number)

    def test_of_100_rooms(self):
        deep = left_deep("", 100)
        machine = ("", tuple(room in (23, 24) for room in range(100)), deep[2])
        trees = listed(machine, 24)
        # The chain, and a chain of one place less with a place more at the right of one of its places.
        self.assertEqual(len(trees), 1 + 23)
        self.assertEqual(trees[-1], chain(24, "left"))
        self.assertEqual(trees[0], chain(22, "left") + ((0, ""), (3, "")))
        self.assertEqual(trees[1], chain(21, "left") + ((0, ""), (3, ""), (1, "")))

    def test_all_are_in_order(self):
        chance = random.Random(333)
        found = 0
        for _ in range(60):
            machine = random_machine(chance, chance.choice(("", "A", "Bx")), chance.randrange(2, 7))
            for size in (3, 5, 7):
                if 1 < counted(machine, size) <= 200:
                    trees = listed(machine, size)
                    found += 1
                    self.assertEqual(len(trees), counted(machine, size))
                    for one, other in zip(trees, trees[1:]):
                        self.assertIs(comes_ahead(one, other), True)
                    self.assertTrue(all(let_by_words(machine, tree) for tree in trees))
        self.assertGreater(found, 20)


if __name__ == "__main__":
    unittest.main()
