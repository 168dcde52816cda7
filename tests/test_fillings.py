import functools
import itertools
import random
import unittest

from trunksay.bases import base_of
from trunksay.fillings import chances_of, filled, filling_at, filling_rank, fillings
from trunksay.order import comes_ahead
from trunksay.record import machine_of
from trunksay.saying import read_statement
from trunksay.trees import part_at

from tests.helping import (NEVER, ONE_ROOM, bushy, chain, check_refused, idle, is_plain, left_deep, let_by_words,
                           machine_by, marks_in_order, nested, ordered_trees, random_machine, room_by_words)


def all_fillings(tree, names):
    """All fillings in the order of trees."""
    choices = [["".join(sorted(set(marks) - set(names) | set(chosen))) for chosen in marks_in_order(names)]
               for _, marks in tree]
    found = [tuple((branches, each) for (branches, _), each in zip(tree, marks)) for marks in itertools.product(*choices)]
    return sorted(found, key=functools.cmp_to_key(lambda one, other: -1 if comes_ahead(one, other) else
                                                  1 if comes_ahead(other, one) else 0))


def random_tree(chance, size, letters):
    if size == 0:
        return ()
    first = chance.randrange(size)
    left, right = random_tree(chance, first, letters), random_tree(chance, size - 1 - first, letters)
    marks = "".join(letter for letter in letters if chance.random() < 0.4)
    return left + right + (((1 if left else 0) + (2 if right else 0), marks),)


class Fillings(unittest.TestCase):
    def check(self, machine, tree, names):
        found = all_fillings(tree, names)
        self.assertEqual(len(found), 2 ** (len(tree) * len(names)))
        let = [each for each in found if let_by_words(machine, each)]
        self.assertEqual(fillings(machine, tree, names), len(let))
        for number, each in enumerate(let):
            self.assertEqual(filling_at(machine, tree, names, number), each)
        for number in (-1, len(let), -10 ** 30, 10 ** 5000):
            check_refused(self, "NoNumber", filling_at, machine, tree, names, number)
        self.assertEqual(filled(machine, tree, names), let[0] if let else None)
        ahead = 0
        for each in found:
            self.assertEqual(filling_rank(machine, each, names), ahead)
            ahead += 1 if let_by_words(machine, each) else 0
        self.assertEqual(filling_rank(machine, tree, names), sum(1 for each in let if comes_ahead(each, tree)))
        chances = tuple(tuple(sorted({room_by_words(machine, nested(part_at(each, place))) for each in found}))
                        for place in range(len(tree)))
        self.assertEqual(chances_of(machine, tree, names), chances)
        self.assertTrue(is_plain((chances_of(machine, tree, names), filled(machine, tree, names))))

    def test_the_empty_tree(self):
        for names in ("", "A", "ABCx"):
            for machine, many, first in ((ONE_ROOM, 1, ()), (NEVER, 0, None), (base_of(("one", "x")), 0, None)):
                self.assertEqual(fillings(machine, (), names), many)
                self.assertEqual(filled(machine, (), names), first)
                self.assertEqual(chances_of(machine, (), names), ())
                self.assertEqual(filling_rank(machine, (), names), 0)
            self.assertEqual(filling_at(ONE_ROOM, (), names, 0), ())
            check_refused(self, "NoNumber", filling_at, NEVER, (), names, 0)
            check_refused(self, "NoNumber", filling_at, ONE_ROOM, (), names, 1)

    def test_no_names(self):
        tree = ((0, "x"), (1, "A"))
        machine = base_of(("one", "x"))
        self.assertEqual(fillings(machine, tree, ""), 1)
        self.assertEqual(filled(machine, tree, ""), tree)
        self.assertEqual(filling_at(machine, tree, "", 0), tree)
        self.assertEqual(filling_rank(machine, tree, ""), 0)
        self.assertEqual(chances_of(machine, tree, ""), ((1,), (1,)))
        self.assertEqual(fillings(machine, ((0, "A"),), ""), 0)
        self.assertIsNone(filled(machine, ((0, "A"),), ""))

    def test_names_that_are_none_of_the_machines(self):
        tree = ((0, "A"), (1, ""))
        self.assertEqual(fillings(ONE_ROOM, tree, "A"), 4)
        self.assertEqual([filling_at(ONE_ROOM, tree, "A", number) for number in range(4)],
                         [((0, ""), (1, "")), ((0, ""), (1, "A")), ((0, "A"), (1, "")), ((0, "A"), (1, "A"))])
        self.assertEqual(fillings(ONE_ROOM, tree, "ABCx"), 256)
        self.assertEqual(fillings(NEVER, tree, "ABCx"), 0)
        self.assertEqual(filling_rank(ONE_ROOM, tree, "A"), 2)
        self.assertEqual(chances_of(ONE_ROOM, tree, "ABCx"), ((0,), (0,)))

    def test_letters_that_the_tree_bears_already(self):
        machine = base_of(("one", "x"))
        for tree in (((0, "x"), (1, "x")), ((0, ""), (1, "")), ((0, "x"), (1, ""))):
            self.assertEqual(fillings(machine, tree, "x"), 2)
            self.assertEqual(filled(machine, tree, "x"), ((0, ""), (1, "x")))
            self.assertEqual(filling_at(machine, tree, "x", 1), ((0, "x"), (1, "")))
        self.assertEqual(filling_rank(machine, ((0, "x"), (1, "x")), "x"), 2)
        self.assertEqual(filling_rank(machine, ((0, ""), (1, "x")), "x"), 0)

    def test_other_letters_stay(self):
        machine = base_of(("in", "A", "x"))
        tree = ((0, "Az"), (1, "By"))
        self.assertEqual(fillings(machine, tree, "x"), 2)
        self.assertEqual(filled(machine, tree, "x"), ((0, "Axz"), (1, "By")))
        self.assertEqual(filling_at(machine, tree, "x", 1), ((0, "Axz"), (1, "Bxy")))
        self.assertEqual(filled(machine, tree, "A"), ((0, "z"), (1, "By")))

    def test_the_first_places_weigh_most(self):
        tree = ((0, ""), (0, ""), (3, ""))
        told = [filling_at(ONE_ROOM, tree, "A", number) for number in range(8)]
        self.assertEqual([tuple(place for place in range(3) if "A" in each[place][1]) for each in told],
                         [(), (2,), (1,), (1, 2), (0,), (0, 2), (0, 1), (0, 1, 2)])

    def test_against_all_fillings_of_small_trees(self):
        chance = random.Random(360)
        for machine_names in ("", "A", "Ax", "Bx"):
            for names in ("", "A", "x", "Ax", "Cx"):
                for size in range(4 if len(names) < 2 else 3):
                    for _ in range(2):
                        machine = random_machine(chance, machine_names, chance.randrange(1, 5))
                        self.check(machine, random_tree(chance, size, "ABx"), names)

    def test_four_names(self):
        chance = random.Random(361)
        for names in ("ABCx", "ABxy"):
            for tree in ordered_trees(1, "A") + [((0, "z"), (2, "A"))]:
                self.check(random_machine(chance, "ABx", 3), tree, names)

    def test_a_statement(self):
        machine = machine_of(read_statement("some x ( x in A and A in x )"))
        for tree in (chain(4, "left"), chain(4, "right", "A"), ((0, "A"), (0, ""), (3, "A"), (1, "z"))):
            self.assertEqual(fillings(machine, tree, "A"), 4)
            for number in range(4):
                each = filling_at(machine, tree, "A", number)
                self.assertEqual([place for place in range(4) if "A" in each[place][1]], [3 - number])


class FiveNames(unittest.TestCase):
    def test_refused_ahead_of_all_else(self):
        for machine in (ONE_ROOM, NEVER, idle("ABCDE")):
            for tree in ((), ((0, "A"),), chain(100, "left")):
                for names in ("ABCDE", "ABCDEF", "abcdefghijklmnopqrstuvwxyz"):
                    for function in (fillings, filled, filling_rank, chances_of):
                        check_refused(self, "TooGreat", function, machine, tree, names)
                    for number in (0, -1, 10 ** 30):
                        check_refused(self, "TooGreat", filling_at, machine, tree, names, number)

    def test_four_are_not(self):
        self.assertEqual(fillings(idle("ABCD"), ((0, ""),), "ABCD"), 16)
        self.assertEqual(filling_at(idle("ABCD"), ((0, ""),), "ABCD", 15), ((0, "ABCD"),))
        self.assertEqual(filling_rank(idle("ABCD"), ((0, "AD"),), "ABCD"), 9)
        self.assertEqual(chances_of(idle("ABCD"), ((0, ""),), "ABCD"), ((0,),))
        self.assertEqual(filled(idle("ABCD"), ((0, "A"),), "ABCD"), ((0, ""),))


class OneHundredPlaces(unittest.TestCase):
    def test_all_let_by(self):
        for tree in (chain(100, "left"), chain(100, "right"), bushy(100, iter([""] * 100))):
            self.assertEqual(fillings(ONE_ROOM, tree, "ABCD"), 2 ** 400)
            last = filling_at(idle("ABCD"), tree, "ABCD", 2 ** 400 - 1)
            self.assertEqual(last, tuple((branches, "ABCD") for branches, _ in tree))
            self.assertEqual(filling_rank(idle("B"), last, "ABCD"), 2 ** 400 - 1)
            self.assertEqual(filled(ONE_ROOM, last, "ABCD"), tree)
            check_refused(self, "NoNumber", filling_at, ONE_ROOM, tree, "ABCD", 2 ** 400)

    def test_one_of_100(self):
        machine = base_of(("one", "x"))
        for tree in (chain(100, "left"), bushy(100, iter([""] * 100))):
            self.assertEqual(fillings(machine, tree, "Ax"), 100 * 2 ** 100)
            self.assertEqual(fillings(machine, tree, "x"), 100)
            for number in (0, 1, 50, 99):
                each = filling_at(machine, tree, "x", number)
                self.assertEqual([place for place in range(100) if each[place][1]], [99 - number])
                self.assertEqual(filling_rank(machine, each, "x"), number)

    def test_there_and_back(self):
        chance = random.Random(362)
        for names, rooms in (("A", 6), ("Ax", 5), ("ABx", 12), ("", 30)):
            for _ in range(4):
                machine = random_machine(chance, names, rooms)
                tree = random_tree(chance, 100, "ABz")
                many = fillings(machine, tree, "ABxy")
                for number in ([chance.randrange(many)] if many else []):
                    each = filling_at(machine, tree, "ABxy", number)
                    self.assertIs(let_by_words(machine, each), True)
                    self.assertEqual(filling_rank(machine, each, "ABxy"), number)
                    self.assertEqual([branches for branches, _ in each], [branches for branches, _ in tree])
                    self.assertEqual(["z" in marks for _, marks in each], ["z" in marks for _, marks in tree])
                good = any(machine[1][room] for room in chances_of(machine, tree, "ABxy")[-1])
                self.assertIs(many > 0, good)
                self.assertIs(filled(machine, tree, "ABxy") is None, not good)

    def test_a_machine_of_100_rooms(self):
        tree = chain(99, "left")
        self.assertEqual(fillings(left_deep("", 100), tree, "ABCD"), 2 ** 396)
        self.assertEqual(chances_of(left_deep("", 100), tree, "A"), tuple((room,) for room in range(1, 100)))
        self.assertEqual(fillings(left_deep("A", 70), tree, "A"), 2 ** 30)
        spread = machine_by("A", [room == 0 for room in range(70)], lambda letter, left, right:
                            (left + right + letter) % 70)
        whole = bushy(100, iter([""] * 100))
        self.assertEqual(chances_of(spread, whole, "A")[-1], tuple(range(70)))


if __name__ == "__main__":
    unittest.main()
