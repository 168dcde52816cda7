import random
import unittest

from trunksay.bases import base_of
from trunksay.errors import TrunkError
from trunksay.kept import Kept
from trunksay.machines import widened
from trunksay.record import machine_of
from trunksay.saying import read_statement

from tests.helping import (NEVER, ONE_ROOM, PARITY, bushy, chain, check_refused, idle, is_plain, left_deep, let_by_words,
                           machine_by, nested, random_machine, room_by_words)

NO_PLACES = (-1, -2, -100, -10 ** 30, 10 ** 30, -10 ** 5000, 10 ** 5000)
FORK = ((0, ""), (0, ""), (3, ""))


def noded(tree):
    """For each place its node (left, right, marks, number)."""
    found = {}

    def walk(node):
        if node is not None:
            found[node[3]] = node
            walk(node[0])
            walk(node[1])

    walk(nested(tree))
    return found


def rooms_by_words(machine, tree):
    nodes = noded(tree)
    return tuple(room_by_words(machine, nodes[number]) for number in range(len(tree)))


def up_by_words(tree, place):
    for number, node in noded(tree).items():
        if place in [branch[3] for branch in node[:2] if branch is not None]:
            return number
    return None


def size_of(node):
    return 0 if node is None else 1 + size_of(node[0]) + size_of(node[1])


class Model:
    """A Kept by the words of the document: whole trees, and each number reckoned from the trees before and behind."""

    def __init__(self, machine, tree):
        self.machine = machine
        self.trees = [tree]
        self.deeds = []
        self.at = 0
        self.reckoned = len(tree)

    def tree(self):
        return self.trees[self.at]

    def deed(self, tree, kind, place, behind, side):
        self.trees[self.at + 1:] = [tree]
        self.deeds[self.at:] = [(kind, place, behind, side)]
        self.again()

    def put(self, place, letter):
        branches, marks = self.tree()[place]
        changed = self.tree()[:place] + ((branches, "".join(sorted(set(marks) | {letter}))),) + self.tree()[place + 1:]
        self.deed(changed, "marks", place, place, None)

    def take(self, place, letter):
        branches, marks = self.tree()[place]
        changed = self.tree()[:place] + ((branches, "".join(sorted(set(marks) - {letter}))),) + self.tree()[place + 1:]
        self.deed(changed, "marks", place, place, None)

    def branch(self, place, side, other):
        def flat(node):
            if node is None:
                return ()
            left, right = flat(node[0]), flat(node[1])
            if node[3] == place:
                left, right = (other, right) if side == "left" else (left, other)
            return left + right + (((1 if left else 0) + (2 if right else 0), node[2]),)

        changed = flat(nested(self.tree()))
        self.deed(changed, "branch", place, place + len(changed) - len(self.tree()), side)

    def whole(self, tree):
        self.deed(tree, "whole", None, None, None)

    def moved(self, before, kind, place, behind, side):
        tree = self.tree()
        if kind == "whole":
            self.reckoned = len(tree)
            return
        old, new = rooms_by_words(self.machine, before), rooms_by_words(self.machine, tree)
        many = 0
        if side is not None:
            many = size_of(noded(tree)[behind][0 if side == "left" else 1])
        shift = behind - place
        while behind is not None:
            many += 1
            if new[behind] == old[behind - shift]:
                break
            behind = up_by_words(tree, behind)
        self.reckoned = many

    def back(self):
        before = self.tree()
        self.at -= 1
        kind, place, behind, side = self.deeds[self.at]
        self.moved(before, kind, behind, place, side)

    def again(self):
        before = self.tree()
        self.at += 1
        self.moved(before, *self.deeds[self.at - 1])


class Deeds(unittest.TestCase):
    def check_now(self, kept, machine, tree, reckoned):
        for _ in range(2):
            self.assertEqual(kept.tree_now(), tree)
            self.assertEqual(kept.rooms_now(), rooms_by_words(machine, tree))
            self.assertIs(kept.lets_now(), let_by_words(machine, tree))
            self.assertEqual(kept.reckoned(), reckoned)

    def test_made(self):
        machine = base_of(("in", "A", "B"))
        for tree in ((), ((0, "A"),), FORK, chain(100, "left", "AB")):
            kept = Kept(machine, tree)
            self.check_now(kept, machine, tree, len(tree))
            self.assertTrue(is_plain((kept.tree_now(), kept.rooms_now(), kept.lets_now(), kept.reckoned())))
        self.assertIs(Kept(NEVER, ()).lets_now(), False)
        self.assertIs(Kept(ONE_ROOM, ()).lets_now(), True)

    def test_nothing_is_told_of_deeds(self):
        kept = Kept(ONE_ROOM, FORK)
        self.assertIsNone(kept.put(0, "A"))
        self.assertIsNone(kept.take(0, "A"))
        self.assertIsNone(kept.branch(0, "left", ()))
        self.assertIsNone(kept.whole(FORK))
        self.assertIsNone(kept.back())
        self.assertIsNone(kept.again())

    def test_put_and_take(self):
        machine = widened(base_of(("in", "A", "B")), "ABz")
        tree = ((0, ""), (1, "z"), (1, "Bx"))
        kept = Kept(machine, tree)
        kept.put(1, "A")
        self.check_now(kept, machine, ((0, ""), (1, "Az"), (1, "Bx")), 2)
        kept.put(1, "B")
        self.check_now(kept, machine, ((0, ""), (1, "ABz"), (1, "Bx")), 2)
        kept.take(2, "B")
        self.check_now(kept, machine, ((0, ""), (1, "ABz"), (1, "x")), 1)
        kept.take(0, "z")
        self.check_now(kept, machine, ((0, ""), (1, "ABz"), (1, "x")), 1)
        kept.put(2, "x")
        self.check_now(kept, machine, ((0, ""), (1, "ABz"), (1, "x")), 1)
        for reckoned, places in ((1, ((0, ""), (1, "ABz"), (1, "x"))), (1, ((0, ""), (1, "ABz"), (1, "x"))),
                                 (1, ((0, ""), (1, "ABz"), (1, "Bx"))), (2, ((0, ""), (1, "Az"), (1, "Bx"))),
                                 (2, tree)):
            kept.back()
            self.check_now(kept, machine, places, reckoned)
        check_refused(self, "NothingDone", kept.back)
        self.check_now(kept, machine, tree, 2)

    def test_the_first_place_above_whose_room_stays_is_reckoned_too(self):
        # A place is in room 1 where it bears A, and also where its left branch is in room 1 and it bears no B.
        machine = machine_by("AB", [True, False], lambda letter, left, right:
                             1 if letter & 2 or (left and not letter & 1) else 0)
        for high in range(1, 10):
            tree = tuple((1 if place else 0, "B" if place == high else "") for place in range(10))
            kept = Kept(machine, tree)
            kept.put(0, "A")
            self.assertEqual(kept.reckoned(), high + 1)
            self.assertEqual(kept.rooms_now(), (1,) * high + (0,) * (10 - high))
            kept.put(0, "A")
            self.assertEqual(kept.reckoned(), 1)
            kept.back()
            self.assertEqual(kept.reckoned(), 1)
            kept.back()
            self.assertEqual(kept.reckoned(), high + 1)
            kept.again()
            self.assertEqual(kept.reckoned(), high + 1)
        kept = Kept(machine, chain(10, "left"))
        kept.put(3, "A")
        self.assertEqual(kept.reckoned(), 7)
        kept.put(9, "B")
        self.assertEqual((kept.reckoned(), kept.lets_now()), (1, True))

    def test_none_above_the_first_that_stays_though_others_are_there(self):
        # The rooms tell a parity, but a place that bears B is always in room 0.
        machine = machine_by("AB", [True, False], lambda letter, left, right:
                             0 if letter & 1 else (left + right + (letter >> 1)) % 2)
        tree = ((0, ""), (0, "A"), (3, ""), (1, "B"), (0, ""), (3, ""))
        kept = Kept(machine, tree)
        self.assertEqual(kept.rooms_now(), (0, 1, 1, 0, 0, 0))
        kept.put(0, "A")
        self.check_now(kept, machine, ((0, "A"),) + tree[1:], 3)
        kept.put(4, "A")
        self.check_now(kept, machine, ((0, "A"),) + tree[1:4] + ((0, "A"), (3, "")), 2)

    def test_branch(self):
        machine = PARITY
        kept = Kept(machine, FORK)
        self.check_now(kept, machine, FORK, 3)
        kept.branch(0, "left", chain(2, "left", "z"))
        self.check_now(kept, machine, ((0, "z"), (1, "z"), (1, ""), (0, ""), (3, "")), 2 + 1)
        kept.branch(4, "left", ((0, ""),))
        self.check_now(kept, machine, FORK, 1 + 1)
        kept.branch(2, "left", ())
        self.check_now(kept, machine, ((0, ""), (2, "")), 0 + 1)
        kept.branch(1, "right", ())
        self.check_now(kept, machine, ((0, ""),), 0 + 1)
        kept.branch(0, "right", FORK)
        self.check_now(kept, machine, FORK + ((2, ""),), 3 + 1)
        for reckoned, tree in ((0 + 1, ((0, ""),)), (1 + 1, ((0, ""), (2, ""))), (1 + 1, FORK),
                               (3 + 1, ((0, "z"), (1, "z"), (1, ""), (0, ""), (3, ""))), (0 + 1, FORK)):
            kept.back()
            self.check_now(kept, machine, tree, reckoned)

    def test_the_same_place_though_its_number_is_another(self):
        # The top's room hangs on its left branch; that of place 1 stays when the branch at its right is put.
        machine = left_deep("", 5)
        tree = ((0, ""), (1, ""), (0, ""), (3, ""))
        kept = Kept(machine, tree)
        self.assertEqual(kept.rooms_now(), (1, 2, 1, 3))
        kept.branch(1, "right", chain(3, "right"))
        self.assertEqual(kept.reckoned(), 3 + 1)
        self.assertEqual(kept.rooms_now(), (1, 1, 1, 1, 2, 1, 3))
        kept.branch(0, "left", ((0, ""),))
        self.assertEqual(kept.reckoned(), 1 + 3)
        self.assertEqual(kept.rooms_now(), (1, 2, 1, 1, 1, 3, 1, 4))
        kept.back()
        self.assertEqual(kept.reckoned(), 0 + 3)
        kept.back()
        self.assertEqual(kept.reckoned(), 0 + 1)
        self.assertEqual(kept.rooms_now(), (1, 2, 1, 3))

    def test_a_branch_that_changes_nothing(self):
        kept = Kept(idle("A", 2), FORK)
        kept.branch(2, "left", ((0, ""),))
        self.check_now(kept, idle("A", 2), FORK, 1 + 1)
        kept.branch(0, "left", ())
        self.check_now(kept, idle("A", 2), FORK, 1)
        kept.back()
        kept.back()
        self.check_now(kept, idle("A", 2), FORK, 1 + 1)
        check_refused(self, "NothingDone", kept.back)

    def test_whole(self):
        machine = base_of(("one", "x"))
        kept = Kept(machine, FORK)
        for tree in ((), ((0, "x"),), chain(100, "right"), FORK, FORK):
            kept.whole(tree)
            self.check_now(kept, machine, tree, len(tree))
        for tree in (FORK, chain(100, "right"), ((0, "x"),), (), FORK):
            kept.back()
            self.check_now(kept, machine, tree, len(tree))
        for tree in ((), ((0, "x"),), chain(100, "right"), FORK, FORK):
            kept.again()
            self.check_now(kept, machine, tree, len(tree))

    def test_a_deed_that_changes_nothing_is_a_deed(self):
        kept = Kept(ONE_ROOM, FORK)
        deeds = ((kept.put, (0, "A")), (kept.put, (0, "A")), (kept.take, (1, "A")), (kept.branch, (0, "left", ())),
                 (kept.whole, (kept.tree_now(),)))
        for deed, handed in deeds:
            deed(*handed)
        for _ in deeds:
            kept.back()
        check_refused(self, "NothingDone", kept.back)
        for _ in deeds:
            kept.again()
        check_refused(self, "NothingDone", kept.again)

    def test_what_was_taken_back_is_forgotten_behind_a_new_deed(self):
        for deed, handed in (("put", (0, "A")), ("put", (0, "z")), ("take", (0, "A")), ("branch", (0, "left", ())),
                             ("whole", (FORK,))):
            kept = Kept(ONE_ROOM, FORK)
            kept.put(0, "A")
            kept.put(1, "B")
            kept.back()
            kept.back()
            getattr(kept, deed)(*handed)
            check_refused(self, "NothingDone", kept.again)
            kept.back()
            self.assertEqual(kept.tree_now(), FORK)
            check_refused(self, "NothingDone", kept.back)
            kept.again()
            check_refused(self, "NothingDone", kept.again)

    def test_what_was_told_does_not_change(self):
        kept = Kept(PARITY, FORK)
        told = (kept.tree_now(), kept.rooms_now(), kept.reckoned())
        kept.branch(0, "left", FORK)
        kept.put(0, "A")
        self.assertEqual(told, (FORK, (1, 1, 0), 3))

    def test_two_of_the_same_tree(self):
        one, other = Kept(PARITY, FORK), Kept(PARITY, FORK)
        one.branch(0, "left", ((0, ""),))
        self.check_now(other, PARITY, FORK, 3)
        check_refused(self, "NothingDone", other.back)
        other.put(2, "A")
        one.back()
        self.check_now(one, PARITY, FORK, 0 + 2)
        self.check_now(other, PARITY, ((0, ""), (0, ""), (3, "A")), 1)
        one.again()
        check_refused(self, "NothingDone", other.again)
        other.back()
        self.check_now(other, PARITY, FORK, 1)


class Refused(unittest.TestCase):
    def check_nothing_changed(self, kept, name, deed, *handed):
        before = (kept.tree_now(), kept.rooms_now(), kept.lets_now(), kept.reckoned())
        check_refused(self, name, deed, *handed)
        self.assertEqual((kept.tree_now(), kept.rooms_now(), kept.lets_now(), kept.reckoned()), before)

    def test_no_place(self):
        for tree in ((), ((0, "A"),), FORK):
            kept = Kept(ONE_ROOM, tree)
            for number in NO_PLACES + (len(tree), len(tree) + 1):
                self.check_nothing_changed(kept, "NoPlace", kept.put, number, "A")
                self.check_nothing_changed(kept, "NoPlace", kept.take, number, "A")
                for side in ("left", "right"):
                    self.check_nothing_changed(kept, "NoPlace", kept.branch, number, side, ())
            check_refused(self, "NothingDone", kept.back)

    def test_no_place_ahead_of_too_great(self):
        kept = Kept(ONE_ROOM, chain(100, "left"))
        for number in NO_PLACES + (100,):
            self.check_nothing_changed(kept, "NoPlace", kept.branch, number, "right", chain(100, "left"))
        self.check_nothing_changed(kept, "TooGreat", kept.branch, 99, "right", ((0, ""),))

    def test_exactly_100_places_and_101(self):
        kept = Kept(PARITY, FORK)
        self.check_nothing_changed(kept, "TooGreat", kept.branch, 0, "left", chain(98, "left"))
        kept.branch(0, "left", chain(97, "left"))
        self.assertEqual((len(kept.tree_now()), kept.reckoned()), (100, 97 + 2))
        self.check_nothing_changed(kept, "TooGreat", kept.branch, 0, "left", ((0, ""),))
        kept.branch(97, "left", chain(97, "right"))
        self.assertEqual((len(kept.tree_now()), kept.reckoned()), (100, 97 + 1))
        self.check_nothing_changed(kept, "TooGreat", kept.branch, 97, "left", chain(98, "right"))
        kept.branch(99, "left", chain(98, "left"))
        self.assertEqual((len(kept.tree_now()), kept.reckoned()), (100, 98 + 1 + 0))

    def test_a_refused_one_is_no_deed(self):
        kept = Kept(PARITY, FORK)
        kept.put(0, "A")
        kept.put(1, "A")
        kept.back()
        self.check_nothing_changed(kept, "NoPlace", kept.put, 3, "A")
        self.check_nothing_changed(kept, "TooGreat", kept.branch, 0, "left", chain(98, "left"))
        kept.again()
        self.assertEqual(kept.tree_now(), ((0, "A"), (0, "A"), (3, "")))
        self.check_nothing_changed(kept, "NothingDone", kept.again)
        self.check_nothing_changed(kept, "NoPlace", kept.take, 3, "A")
        kept.back()
        kept.back()
        self.assertEqual(kept.tree_now(), FORK)
        self.check_nothing_changed(kept, "NothingDone", kept.back)
        kept.again()
        self.assertEqual(kept.tree_now(), ((0, "A"), (0, ""), (3, "")))

    def test_nothing_done(self):
        kept = Kept(ONE_ROOM, ())
        self.check_nothing_changed(kept, "NothingDone", kept.back)
        self.check_nothing_changed(kept, "NothingDone", kept.again)
        kept.whole(FORK)
        self.check_nothing_changed(kept, "NothingDone", kept.again)
        kept.back()
        self.check_nothing_changed(kept, "NothingDone", kept.back)
        kept.again()
        self.assertEqual(kept.tree_now(), FORK)


class AgainstTheWords(unittest.TestCase):
    def step(self, chance, kept, model):
        """Any deed, at times a refused one; whether it was refused."""
        size = len(model.tree())
        place = chance.randrange(-1, size + 1)
        other = bushy(chance.randrange(6), iter(chance.choice(("", "A", "Ax")) for _ in range(6)))
        deed, handed = chance.choice((
            ("put", (place, chance.choice("ABxz"))), ("take", (place, chance.choice("ABxz"))),
            ("branch", (place, chance.choice(("left", "right")), other)), ("back", ()), ("back", ()), ("again", ()),
            ("whole", (other,)) if chance.random() < 0.2 else ("again", ())))
        refused = (deed in ("put", "take", "branch") and not 0 <= place < size or deed == "back" and model.at == 0
                   or deed == "again" and model.at == len(model.deeds))
        if refused:
            self.assertRaises(TrunkError, getattr(kept, deed), *handed)
        else:
            getattr(model, deed)(*handed)
            getattr(kept, deed)(*handed)

    def test_many_deeds(self):
        chance = random.Random(370)
        machines = [base_of(("one", "x")), base_of(("left", "x", "A")), base_of(("below", "x", "A")), PARITY,
                    machine_of(read_statement("all x ( not x in A or some y ( y left x and y in B ) )"))]
        machines.extend(random_machine(chance, "Ax", rooms) for rooms in (2, 3, 5, 9))
        for machine in machines:
            for _ in range(4):
                tree = bushy(chance.randrange(8), iter(chance.choice(("", "A", "x")) for _ in range(8)))
                kept, model = Kept(machine, tree), Model(machine, tree)
                for _ in range(60):
                    self.step(chance, kept, model)
                    self.assertEqual(kept.tree_now(), model.tree())
                    self.assertEqual(kept.rooms_now(), rooms_by_words(machine, model.tree()))
                    self.assertEqual(kept.reckoned(), model.reckoned)
                    self.assertIs(kept.lets_now(), let_by_words(machine, model.tree()))


if __name__ == "__main__":
    unittest.main()
