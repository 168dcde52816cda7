import random
import unittest

from trunksay.least import least_of
from trunksay.unlike import unlike_rows

from tests.helping import (ONE_ROOM, apart_by_words, every_machine, idle, is_plain, left_deep, machine_by,
                           random_machine, renumbered, rooms_come_to)


def by_leads(names, good, leads):
    """The machine with these leads, all others to room 0."""
    return machine_by(names, good, lambda letter, left, right: leads.get((letter, left, right), 0))


class Unlike(unittest.TestCase):
    def check(self, machine):
        found = apart_by_words(machine)
        rows = unlike_rows(machine)
        self.assertEqual(rows, tuple((a, b, steps, why) for steps, a, b, why in
                                     sorted((steps, a, b, why) for (a, b), (steps, why) in found.items())))
        self.assertTrue(is_plain(rows))
        return rows

    def test_no_rows(self):
        for machine in (ONE_ROOM, idle("Ax"), idle("", 100), idle("ABCDEFGHIJKLM"),
                        machine_by("A", [False] * 3, lambda letter, left, right: letter + left // 2)):
            self.assertEqual(unlike_rows(machine), ())

    def test_no_steps(self):
        machine = machine_by("", [True, False, False], lambda letter, left, right: 1 if 0 in (left, right) else 2)
        self.assertEqual(unlike_rows(machine)[:2], ((0, 1, 0, ()), (0, 2, 0, ())))

    def test_steps_then_rooms(self):
        self.assertEqual(unlike_rows(left_deep("", 4)), (
            (0, 3, 0, ()), (1, 3, 0, ()), (2, 3, 0, ()),
            (0, 2, 1, (0, 0, 0)), (1, 2, 1, (0, 0, 0)),
            (0, 1, 2, (0, 0, 0))))
        mirrored = machine_by("", [False, False, True], lambda letter, left, right: min(right + 1, 2))
        self.assertEqual(unlike_rows(mirrored), ((0, 2, 0, ()), (1, 2, 0, ()), (0, 1, 1, (0, 1, 0))))
        self.assertEqual(unlike_rows(left_deep("Ax", 3))[-1], (0, 1, 1, (3, 0, 0)))

    def test_a_third_room_that_is_one_of_the_two(self):
        # Only beside room 1 are the rooms 1 and 2 apart in one step.
        machine = by_leads("", (False, False, False, True), {(0, 0, 0): 1, (0, 1, 0): 2, (0, 1, 1): 3})
        rows = dict((row[:2], row[2:]) for row in self.check(machine))
        self.assertEqual(rows[(1, 2)], (1, (0, 0, 1)))
        # Room 2 at the left and room 1 at the right: the side at which 1 and 2 stand is the right one.
        machine = by_leads("", (False, False, False, True), {(0, 0, 0): 1, (0, 1, 0): 2, (0, 2, 1): 3, (0, 1, 1): 3})
        rows = dict((row[:2], row[2:]) for row in self.check(machine))
        self.assertEqual(rows[(1, 2)], (1, (0, 1, 1)))

    def test_a_room_to_which_no_tree_comes_is_no_third_room(self):
        machine = by_leads("A", (True, True, True, False), {(0, 0, 0): 1, (1, 0, 0): 2, (0, 1, 3): 3})
        self.assertEqual(self.check(machine), ())

    def test_the_least_letter_then_the_least_side_then_the_least_third_room(self):
        # Room 4 alone is good; 1 and 2 are leaves, room 3 is what stands on them.
        start = {(0, 0, 0): 1, (1, 0, 0): 2, (2, 0, 0): 3}
        good = (False, False, False, False, True)
        for leads, why in (
                ({(0, 3, 2): 4, (1, 2, 0): 4}, (0, 1, 3)),
                ({(1, 0, 2): 4, (1, 2, 3): 4}, (1, 0, 3)),
                ({(3, 2, 3): 4, (3, 2, 1): 4, (3, 2, 2): 4, (3, 1, 1): 4}, (3, 0, 2)),
                ({(2, 3, 2): 4, (2, 1, 2): 4}, (2, 0, 2)),
        ):
            rows = dict((row[:2], row[2:]) for row in self.check(by_leads("AB", good, {**start, **leads})))
            self.assertEqual(rows[(1, 2)], (1, why), leads)

    def test_why_leads_to_rooms_that_are_apart_in_one_step_less(self):
        deep = left_deep("", 100)
        rows = unlike_rows(deep)
        self.assertEqual(rows, tuple((a, b, 99 - b, () if b == 99 else (0, 0, 0))
                                     for b in range(99, 0, -1) for a in range(b)))

    def test_all_machines_of_two_rooms(self):
        for machine in list(every_machine("", 2)) + list(every_machine("A", 2))[::3]:
            self.check(machine)

    def test_many_machines(self):
        chance = random.Random(24)
        steps = set()
        for _ in range(150):
            machine = random_machine(chance, chance.choice(("", "A", "Bx")), chance.randrange(1, 8))
            # One good room of many makes for more steps.
            if chance.random() < 0.6:
                machine = (machine[0], tuple(room == 1 for room in range(len(machine[1]))), machine[2])
            steps.update(row[2] for row in self.check(machine))
        self.assertEqual(steps, {0, 1, 2})

    def test_rooms_far_apart_in_any_order(self):
        chance = random.Random(240)
        for names in ("", "A"):
            for _ in range(10):
                others = list(range(1, 7))
                chance.shuffle(others)
                rows = self.check(renumbered(left_deep(names, 7), [0] + others))
                self.assertEqual([row[2] for row in rows], [0] * 6 + [1] * 5 + [2] * 4 + [3] * 3 + [4] * 2 + [5])

    def test_its_own_least_one_but_for_the_numbers(self):
        chance = random.Random(25)
        answers = []
        for _ in range(80):
            machine = random_machine(chance, chance.choice(("", "A")), chance.randrange(2, 6))
            rooms = len(machine[1])
            least = len(rooms_come_to(machine)) == rooms and len(unlike_rows(machine)) == rooms * (rooms - 1) // 2
            self.assertIs(len(least_of(machine)[0][1]) == rooms, least)
            answers.append(least)
        self.assertEqual(set(answers), {True, False})


if __name__ == "__main__":
    unittest.main()
