import random
import unittest

from trunksay.bases import base_of
from trunksay.least import least_of

from tests.helping import (ONE_ROOM, check_least, every_machine, idle, is_plain, left_deep, let_by_words, machine_by,
                           nested, ordered_trees, random_machine, renumbered, room_by_words, rooms_come_to)


def doubled(chance, machine):
    """A machine of twice the rooms that lets by the same trees: each room stands twice."""
    rooms = len(machine[1])
    return machine_by(machine[0], machine[1] * 2, lambda letter, left, right:
                      machine[2][letter][left % rooms][right % rooms] + rooms * chance.randrange(2))


class Least(unittest.TestCase):
    def check(self, machine):
        made, paper = least_of(machine)
        check_least(self, made)
        self.assertEqual(made[0], machine[0])
        self.assertTrue(is_plain(paper))
        self.assertEqual([row[0] for row in paper], rooms_come_to(machine))
        ties = dict(paper)
        self.assertEqual(ties[0], 0)
        for a, c in paper:
            self.assertIs(made[1][c], machine[1][a])
            for b, d in paper:
                for ours, theirs in zip(machine[2], made[2]):
                    self.assertEqual(ties[ours[a][b]], theirs[c][d])
        return made

    def test_one_room(self):
        self.assertEqual(least_of(ONE_ROOM), (ONE_ROOM, ((0, 0),)))
        never = machine_by("Ax", [False], lambda letter, left, right: 0)
        self.assertEqual(least_of(never), (never, ((0, 0),)))
        great = idle("ABCDEFGHIJKLM")
        self.assertEqual(least_of(great), (great, ((0, 0),)))

    def test_names_that_nothing_hangs_on_are_kept(self):
        machine = machine_by("Ax", [True] * 3, lambda letter, left, right: letter % 3)
        self.assertEqual(least_of(machine), (idle("Ax"), ((0, 0), (1, 0), (2, 0))))
        by_x = machine_by("Ax", [True, False, True, False], lambda letter, left, right: letter)
        leads = (((0, 0), (0, 0)), ((1, 1), (1, 1)))
        self.assertEqual(least_of(by_x), (("Ax", (True, False), leads * 2), ((0, 0), (1, 1), (2, 0), (3, 1))))

    def test_rooms_to_which_no_tree_comes(self):
        machine = machine_by("", [True, False, True, False], lambda letter, left, right: 2 if 3 in (left, right) else 0)
        self.assertEqual(least_of(machine), (ONE_ROOM, ((0, 0),)))
        # Rooms 1 and 2 would be parted by room 3 at the other side, but no tree comes to that.
        machine = machine_by("A", [True, True, True, False], lambda letter, left, right:
                             3 if (left, right) == (1, 3) else 1 + letter)
        self.assertEqual(least_of(machine), (idle("A"), ((0, 0), (1, 0), (2, 0))))

    def test_numbers_in_the_order_of_first_trees(self):
        machine = machine_by("A", [False, True, False, True], lambda letter, left, right:
                             {(0, 0, 0): 3, (1, 0, 0): 2, (0, 0, 3): 1}.get((letter, left, right), 0))
        made = self.check(machine)
        self.assertEqual(dict(least_of(machine)[1]), {0: 0, 3: 1, 2: 2, 1: 3})
        self.assertEqual(made, renumbered(machine, (0, 3, 2, 1)))
        # The block of rooms 1 and 3 gets its number by the first tree of room 3.
        two = machine_by("A", [True, False, True, False], lambda letter, left, right: 3 if letter == 0 else 2 - left % 2)
        self.assertEqual(least_of(two)[1][3], (3, 1))
        self.check(two)

    def test_bases(self):
        self.assertEqual(least_of(base_of(("in", "A", "B"))), (base_of(("in", "A", "B")), ((0, 0), (1, 1))))
        made = (("A", (True,), (((0,),), ((0,),))), ((0, 0),))
        self.assertEqual(least_of(base_of(("in", "A", "A"))), made)
        self.assertEqual(least_of(base_of(("below", "A", "A")))[0], base_of(("below", "A", "A")))
        for word in ("in", "left", "right", "below"):
            for letters in ("AB", "BA", "AA"):
                self.check(base_of((word,) + tuple(letters)))
        self.check(base_of(("one", "x")))

    def test_great_machines(self):
        deep = left_deep("", 100)
        self.assertEqual(least_of(deep), (deep, tuple((room, room) for room in range(100))))
        none_good = (deep[0], (False,) * 100, deep[2])
        self.assertEqual(least_of(none_good), (("", (False,), (((0,),),)), tuple((room, 0) for room in range(100))))
        self.assertEqual(least_of(left_deep("ABCD", 25))[0], left_deep("ABCD", 25))

    def test_all_machines_of_two_rooms_without_names(self):
        # Two of these have four pairs of rooms at most, so where they let by unlike trees, some tree of at most
        # seven places tells them apart.
        trees = [tree for size in range(8) for tree in ordered_trees(size, "")]
        kinds = {}
        for machine in every_machine("", 2):
            made = self.check(machine)
            let = tuple(let_by_words(machine, tree) for tree in trees)
            self.assertEqual(kinds.setdefault(let, made), made)
        self.assertEqual(len(set(kinds.values())), len(kinds))

    def test_the_same_trees_are_let_by(self):
        chance = random.Random(230)
        for names, rooms in (("", 6), ("A", 4), ("Bx", 3), ("ABx", 5)):
            for _ in range(12):
                machine = random_machine(chance, names, rooms)
                made, paper = least_of(machine)
                ties = dict(paper)
                for size in range(4 if len(names) < 3 else 3):
                    for tree in ordered_trees(size, names):
                        node = nested(tree)
                        self.assertEqual(room_by_words(made, node), ties[room_by_words(machine, node)])
                        self.assertIs(let_by_words(made, tree), let_by_words(machine, tree))

    def test_many_machines(self):
        chance = random.Random(231)
        for _ in range(150):
            machine = random_machine(chance, chance.choice(("", "A", "Bx")), chance.randrange(1, 7))
            made = self.check(machine)
            rooms = range(len(made[1]))
            self.assertEqual(least_of(made), (made, tuple((room, room) for room in rooms)))
            others = list(range(1, len(machine[1])))
            chance.shuffle(others)
            self.assertEqual(least_of(renumbered(machine, [0] + others))[0], made)
            self.assertEqual(least_of(doubled(chance, machine))[0], made)


if __name__ == "__main__":
    unittest.main()
