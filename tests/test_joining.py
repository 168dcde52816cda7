import random
import unittest

from trunksay.bases import base_of
from trunksay.going import holds
from trunksay.joining import both, either, flipped
from trunksay.least import least_of
from trunksay.machines import widened
from trunksay.papers import shown

from tests.helping import (NEVER, ONE_ROOM, PARITY, THIRTEEN, check_least, check_refused, every_machine, idle, is_plain,
                           left_deep, let_by_words, machine_by, nested, ordered_trees, pairs_come_to, random_machine,
                           room_by_words, rooms_come_to, rows_by_keys)


class Not(unittest.TestCase):
    def check(self, machine):
        made, paper = flipped(machine)
        check_least(self, made)
        self.assertEqual(made[0], machine[0])
        self.assertTrue(is_plain(paper))
        self.assertEqual([row[0] for row in paper], rooms_come_to(machine))
        self.assertEqual(list(paper), sorted(paper))
        self.assertIs(shown("not", (machine,), made, paper), True)
        return made

    def test_one_room(self):
        self.assertEqual(flipped(ONE_ROOM), (NEVER, ((0, 0),)))
        self.assertEqual(flipped(NEVER), (ONE_ROOM, ((0, 0),)))
        self.assertEqual(flipped(idle("Ax", 3)), (("Ax", (False,), (((0,),),) * 4), ((0, 0),)))

    def test_a_base(self):
        machine = base_of(("in", "A", "B"))
        self.assertEqual(flipped(machine), ((machine[0], (False, True), machine[2]), ((0, 0), (1, 1))))

    def test_made_least(self):
        machine = machine_by("A", [True, False, True, False, True], lambda letter, left, right: 3 if letter else 2)
        made = ("A", (False, True), (((0, 0), (0, 0)), ((1, 1), (1, 1))))
        self.assertEqual(flipped(machine), (made, ((0, 0), (2, 0), (3, 1))))

    def test_and_that_again(self):
        chance = random.Random(260)
        for _ in range(80):
            machine = random_machine(chance, chance.choice(("", "A", "Bx")), chance.randrange(1, 6))
            made = self.check(machine)
            self.assertEqual(flipped(made)[0], least_of(machine)[0])
            self.assertEqual(flipped(made)[1], tuple((room, room) for room in range(len(made[1]))))
            for size in range(4 if len(machine[0]) < 2 else 3):
                for tree in ordered_trees(size, machine[0]):
                    self.assertIs(let_by_words(made, tree), not let_by_words(machine, tree))

    def test_all_machines_of_two_rooms_without_names(self):
        for machine in every_machine("", 2):
            self.check(machine)

    def test_100_rooms(self):
        deep = left_deep("", 100)
        made, paper = flipped(deep)
        self.assertEqual(made, ("", (True,) * 99 + (False,), deep[2]))
        self.assertEqual(paper, tuple((room, room) for room in range(100)))


class AndOr(unittest.TestCase):
    def check(self, one, other):
        names = "".join(sorted(set(one[0] + other[0])))
        pairs = pairs_come_to(one, other, names)
        for word, function in (("and", both), ("or", either)):
            made, paper = function(one, other)
            check_least(self, made)
            self.assertEqual(made[0], names)
            self.assertTrue(is_plain(paper))
            self.assertEqual([row[:2] for row in paper], pairs)
            if len(paper) ** 2 * 2 ** len(names) <= 40000:
                self.assertIs(shown(word, (one, other), made, paper), True)
            ties = {row[:2]: row[2] for row in paper}
            for size in range(3):
                for tree in ordered_trees(size, names):
                    self.check_tree(word, (one, other), made, ties, tree)

    def check_tree(self, word, parts, made, ties, tree):
        node = nested(tree)
        self.assertEqual(room_by_words(made, node), ties[tuple(room_by_words(part, node) for part in parts)])
        lets = [let_by_words(part, tree) for part in parts]
        self.assertIs(let_by_words(made, tree), all(lets) if word == "and" else any(lets))

    def test_one_room(self):
        for one in (ONE_ROOM, NEVER):
            for other in (ONE_ROOM, NEVER):
                good = [one[1][0], other[1][0]]
                self.assertEqual(both(one, other), (("", (all(good),), (((0,),),)), ((0, 0, 0),)))
                self.assertEqual(either(one, other), (("", (any(good),), (((0,),),)), ((0, 0, 0),)))

    def test_the_same_names(self):
        machine = base_of(("in", "A", "B"))
        for function in (both, either):
            self.assertEqual(function(machine, machine), (machine, ((0, 0, 0), (1, 1, 1))))
        against = flipped(machine)[0]
        self.assertEqual(both(machine, against), (("AB", (False,), (((0,),),) * 4), ((0, 0, 0), (1, 1, 0))))
        self.assertEqual(either(machine, against), (("AB", (True,), (((0,),),) * 4), ((0, 0, 0), (1, 1, 0))))

    def test_no_names_in_common(self):
        by_b = machine_by("B", [False, True], lambda letter, left, right: letter)
        by_a = machine_by("A", [False, True], lambda letter, left, right: letter)
        zero, one = ((0, 0), (0, 0)), ((1, 1), (1, 1))
        pairs = ((0, 0), (0, 1), (1, 0), (1, 1))
        self.assertEqual(both(by_b, by_a), (("AB", (False, True), (zero, zero, zero, one)),
                                            tuple(pair + (min(pair),) for pair in pairs)))
        self.assertEqual(either(by_b, by_a), (("AB", (False, True), (zero, one, one, one)),
                                              tuple(pair + (max(pair),) for pair in pairs)))

    def test_the_first_part_is_told_first(self):
        by_b = machine_by("B", [False, True, True], lambda letter, left, right: letter * 2)
        by_x = machine_by("Ax", [True, False], lambda letter, left, right: letter % 2)
        made, paper = both(by_b, by_x)
        self.assertEqual(made[0], "ABx")
        self.assertEqual([row[:2] for row in paper], [(0, 0), (0, 1), (2, 0), (2, 1)])
        self.assertEqual([row[:2] for row in both(by_x, by_b)[1]], [(0, 0), (0, 2), (1, 0), (1, 2)])
        self.assertEqual(both(by_x, by_b)[0], made)

    def test_names_that_nothing_hangs_on_are_kept(self):
        self.assertEqual(both(idle("B"), idle("Ax"))[0], idle("ABx"))
        self.assertEqual(either(idle("x"), NEVER)[0], idle("x"))

    def test_against_the_words_of_both_statements(self):
        plain = (("in", "A", "B"), ("one", "B"), ("left", "B", "A"), ("right", "A", "A"), ("below", "A", "B"))
        trees = [tree for size in range(4) for tree in ordered_trees(size, "AB")]
        for one in plain:
            for other in plain:
                for word, function in (("and", both), ("or", either)):
                    made = function(base_of(one), base_of(other))[0]
                    for tree in trees[::3]:
                        self.assertIs(let_by_words(made, tree), holds((word, one, other), tree))

    def test_many_machines(self):
        chance = random.Random(270)
        for one_names, other_names in (("", ""), ("A", ""), ("A", "A"), ("B", "A"), ("Ax", "x"), ("Bx", "Ax")):
            for _ in range(8):
                one = random_machine(chance, one_names, chance.randrange(1, 5))
                other = random_machine(chance, other_names, chance.randrange(1, 4))
                self.check(one, other)

    def test_two_ways_to_one_machine(self):
        chance = random.Random(271)
        for _ in range(40):
            one = random_machine(chance, chance.choice(("", "A")), chance.randrange(1, 4))
            other = random_machine(chance, chance.choice(("A", "B")), chance.randrange(1, 4))
            self.assertEqual(flipped(both(one, other)[0])[0], either(flipped(one)[0], flipped(other)[0])[0])
            self.assertEqual(both(one, other)[0], both(other, one)[0])
            names = "".join(sorted(set(one[0] + other[0])))
            self.assertEqual(both(one, idle(names))[0], least_of(widened(one, names))[0])


class Bounds(unittest.TestCase):
    def check_at(self, one, other, rows, told):
        names = "".join(sorted(set(one[0] + other[0])))
        self.assertEqual(len(pairs_come_to(one, other, names)), rows)
        self.assertIs(rows * rows * 2 ** len(names) <= 10000, told)
        for function in (both, either):
            for parts in ((one, other), (other, one)):
                if told:
                    self.assertEqual(len(function(*parts)[1]), rows)
                else:
                    check_refused(self, "TooGreat", function, *parts)

    def test_exactly_10000_without_names(self):
        # Of so many rooms that count, the last one alone stands beside both rooms of the parity.
        self.check_at(left_deep("", 99), PARITY, 100, True)
        self.check_at(left_deep("", 100), PARITY, 101, False)

    def test_exactly_10000_with_names(self):
        self.check_at(left_deep("A", 25), left_deep("B", 2), 50, True)
        self.check_at(left_deep("A", 17), left_deep("B", 3), 51, False)
        self.check_at(left_deep("ABC", 5), left_deep("x", 5), 25, True)
        self.check_at(left_deep("ABC", 13), left_deep("x", 2), 26, False)

    def test_far_too_great(self):
        other = machine_by("", [True] * 100, lambda letter, left, right: min(right + 1, 99))
        for function in (both, either):
            check_refused(self, "TooGreat", function, left_deep("", 100), other)
            check_refused(self, "TooGreat", function, idle(THIRTEEN), left_deep("", 2))

    def test_13_and_14_names(self):
        for function in (both, either):
            self.assertEqual(function(idle("ABCDEFG"), idle("HIJKLM")), (idle(THIRTEEN), ((0, 0, 0),)))
            self.assertEqual(function(idle(THIRTEEN), idle("AM")), (idle(THIRTEEN), ((0, 0, 0),)))
            check_refused(self, "TooGreat", function, idle("ABCDEFG"), idle("HIJKLMN"))
            check_refused(self, "TooGreat", function, idle(THIRTEEN), idle("z"))
            check_refused(self, "TooGreat", function, idle(THIRTEEN), idle("NOPQRSTUVWXYZ"))

    def test_only_rooms_to_which_trees_come_count(self):
        for function in (both, either):
            self.assertEqual(function(idle("", 100), idle(THIRTEEN)), (idle(THIRTEEN), ((0, 0, 0),)))
            self.assertEqual(function(idle("", 100), idle("ABCD", 25)), (idle("ABCD"), ((0, 0, 0),)))

    def test_first_trees_of_the_greatest(self):
        made, paper = both(left_deep("", 99), PARITY)
        self.assertEqual(made[1].count(True), 1)
        self.assertEqual([row[0] for row in rows_by_keys(made)], list(range(len(made[1]))))
        self.assertEqual(paper[-2:], ((98, 0, 98), (98, 1, 99)))


if __name__ == "__main__":
    unittest.main()
