import random
import unittest

from trunksay.bases import base_of
from trunksay.joining import both, either, flipped
from trunksay.least import least_of
from trunksay.papers import shown

from tests.helping import (ONE_ROOM, THIRTEEN, check_refused, idle, left_deep, machine_by, random_machine,
                           shown_by_words)

IN = base_of(("in", "A", "B"))
OUT = (IN[0], (False, True), IN[2])


def turned(machine):
    return (machine[0], tuple(not each for each in machine[1]), machine[2])


class Words(unittest.TestCase):
    def test_same_and_not(self):
        rows = ((0, 0), (1, 1))
        self.assertIs(shown("same", (IN,), IN, rows), True)
        self.assertIs(shown("not", (IN,), OUT, rows), True)
        self.assertIs(shown("not", (IN,), IN, rows), False)
        self.assertIs(shown("same", (IN,), OUT, rows), False)

    def test_and_and_or(self):
        always = ("A", (True, True), ((((0, 1), (1, 1))), ((1, 1), (1, 1))))
        some = ("A", (False, True), always[2])
        never = ("A", (False, False), always[2])
        rows = ((0, 0, 0), (1, 1, 1))
        for one in (always, some, never):
            for other in (always, some, never):
                for made in (always, some, never):
                    self.assertIs(shown("and", (one, other), made, rows),
                                  made[1] == tuple(a and b for a, b in zip(one[1], other[1])))
                    self.assertIs(shown("or", (one, other), made, rows),
                                  made[1] == tuple(a or b for a, b in zip(one[1], other[1])))

    def test_good_in_each_row(self):
        rows = ((0, 0), (1, 1))
        for good in ((True, True), (False, False), (False, True)):
            self.assertIs(shown("same", (IN,), (IN[0], good, IN[2]), rows), False)

    def test_good_in_rows_to_which_no_tree_comes(self):
        machine = machine_by("", [True, False], lambda letter, left, right: 0)
        wrong = machine_by("", [True, True], lambda letter, left, right: 0)
        self.assertIs(shown("same", (machine,), machine, ((0, 0), (1, 1))), True)
        self.assertIs(shown("same", (machine,), wrong, ((0, 0),)), True)
        self.assertIs(shown("same", (machine,), wrong, ((0, 0), (1, 1))), False)
        self.assertIs(shown("same", (machine,), wrong, ((0, 0), (0, 1))), True)


class Rows(unittest.TestCase):
    def test_in_any_order_and_more_than_once(self):
        for rows in (((0, 0), (1, 1)), ((1, 1), (0, 0)), ((1, 1), (0, 0), (1, 1), (0, 0), (0, 0))):
            self.assertIs(shown("same", (IN,), IN, rows), True)

    def test_more_rows_than_trees_come_to(self):
        machine = idle("", 3)
        rows = tuple((a, c) for a in range(3) for c in range(3))
        self.assertIs(shown("same", (machine,), machine, rows), True)
        self.assertIs(shown("and", (machine, machine), machine, tuple(row + (row[0],) for row in rows)), True)

    def test_without_rows(self):
        for word, parts in (("same", 1), ("not", 1), ("and", 2), ("or", 2)):
            self.assertIs(shown(word, (ONE_ROOM,) * parts, ONE_ROOM, ()), False)
            self.assertIs(shown(word, (idle(THIRTEEN),) * parts, ONE_ROOM, ()), False)
            check_refused(self, "TooGreat", shown, word, (idle(THIRTEEN),) * parts, idle("N"), ())

    def test_the_row_of_noughts_missing(self):
        machine = machine_by("", [True, True], lambda letter, left, right: 1)
        self.assertIs(shown("same", (machine,), machine, ((1, 1),)), False)
        self.assertIs(shown("same", (machine,), machine, ((0, 1), (1, 1))), False)
        self.assertIs(shown("same", (machine,), machine, ((0, 0), (1, 1))), True)
        self.assertIs(shown("and", (machine, machine), machine, ((1, 1, 1), (0, 1, 0))), False)
        self.assertIs(shown("and", (machine, machine), machine, ((1, 1, 1), (0, 0, 0))), True)

    def test_a_row_that_is_led_to_missing(self):
        self.assertIs(shown("same", (IN,), IN, ((0, 0),)), False)
        deep = left_deep("", 5)
        rows = tuple((room, room) for room in range(5))
        self.assertIs(shown("same", (deep,), deep, rows), True)
        for room in range(5):
            self.assertIs(shown("same", (deep,), deep, rows[:room] + rows[room + 1:]), False)

    def test_led_to_from_unlike_rows_at_both_sides(self):
        # Only room 1 at the left and room 2 at the right, over A, lead to room 3.
        machine = machine_by("A", [True] * 4, lambda letter, left, right:
                             3 if (letter, left, right) == (1, 1, 2) else 1 + letter if left == right == 0 else 0)
        rows = tuple((room, 0) for room in range(4))
        self.assertIs(shown("same", (machine,), ONE_ROOM, rows), True)
        self.assertIs(shown("same", (machine,), ONE_ROOM, rows[:3]), False)
        self.assertIs(shown("same", (ONE_ROOM,), machine, ((0, 0), (0, 1), (0, 2))), False)
        self.assertIs(shown("same", (ONE_ROOM,), machine, ((0, 0), (0, 1), (0, 2), (0, 3))), True)

    def test_numbers_that_are_none_of_a_room(self):
        for number in (2, 3, -1, -2, 10 ** 30, -10 ** 30):
            for row in ((0, number), (number, 0), (number, number)):
                for rows in (((0, 0), (1, 1), row), (row, (0, 0), (1, 1)), (row,)):
                    self.assertIs(shown("same", (IN,), IN, rows), False)
            for place in range(3):
                row = (0,) * place + (number,) + (0,) * (2 - place)
                self.assertIs(shown("or", (IN, IN), IN, ((0, 0, 0), (1, 1, 1), row)), False)
        two = idle("", 2)
        self.assertIs(shown("and", (ONE_ROOM, two), ONE_ROOM, ((0, 0, 0), (0, 1, 0))), True)
        self.assertIs(shown("and", (ONE_ROOM, two), ONE_ROOM, ((0, 0, 0), (1, 0, 0))), False)
        self.assertIs(shown("and", (two, ONE_ROOM), ONE_ROOM, ((0, 0, 0), (1, 0, 0))), True)
        self.assertIs(shown("and", (two, ONE_ROOM), ONE_ROOM, ((0, 0, 0), (0, 1, 0))), False)


class Names(unittest.TestCase):
    def test_each_machine_reads_over_its_own_names(self):
        by_m = machine_by("M", [True, False], lambda letter, left, right: letter)
        by_m_and_more = machine_by("AMz", [True, False], lambda letter, left, right: letter >> 1 & 1)
        self.assertIs(shown("same", (by_m,), by_m_and_more, ((0, 0), (1, 1))), True)
        self.assertIs(shown("same", (by_m_and_more,), by_m, ((0, 0), (1, 1))), True)
        by_a = machine_by("AMz", [True, False], lambda letter, left, right: letter >> 2)
        self.assertIs(shown("same", (by_m,), by_a, ((0, 0), (1, 1))), False)

    def test_names_of_the_made_machine_are_in_question(self):
        # Over no names alone the row (0, 1) would never be led to.
        made = machine_by("B", [True, False], lambda letter, left, right: letter)
        self.assertIs(shown("same", (ONE_ROOM,), made, ((0, 0),)), False)
        self.assertIs(shown("or", (made, turned(made)), ONE_ROOM, ((0, 0, 0), (1, 1, 0))), True)
        self.assertIs(shown("or", (ONE_ROOM, made), ONE_ROOM, ((0, 0, 0),)), False)
        self.assertIs(shown("or", (made, ONE_ROOM), ONE_ROOM, ((0, 0, 0),)), False)
        self.assertIs(shown("or", (made, ONE_ROOM), ONE_ROOM, ((0, 0, 0), (1, 0, 0))), True)

    def test_13_and_14_names(self):
        self.assertIs(shown("same", (idle(THIRTEEN),), idle(THIRTEEN), ((0, 0),)), True)
        self.assertIs(shown("same", (idle("ABCDEFG"),), idle("HIJKLM"), ((0, 0),)), True)
        self.assertIs(shown("and", (idle("ABCDE"), idle("EFGHI")), idle("IJKLM"), ((0, 0, 0),)), True)
        for parts, made in (((idle(THIRTEEN),), idle("N")), ((idle("z"),), idle(THIRTEEN)),
                            ((idle("ABCDEFG"),), idle("HIJKLMN"))):
            check_refused(self, "TooGreat", shown, "same", parts, made, ((0, 0),))
        for parts in ((idle("ABCDE"), idle("FGHIJ")), (idle(THIRTEEN), idle("NOPQRSTUVWXYZ"))):
            check_refused(self, "TooGreat", shown, "or", parts, idle("JKLMn"), ((0, 0, 0),))

    def test_the_last_one_of_13_names_counts(self):
        by_m = machine_by("M", [True, False], lambda letter, left, right: letter)
        other = idle("ABCDEFGHIJKL")
        self.assertIs(shown("or", (by_m, other), by_m, ((0, 0, 0), (1, 0, 0))), False)
        self.assertIs(shown("and", (by_m, other), by_m, ((0, 0, 0), (1, 0, 1))), True)
        self.assertIs(shown("and", (by_m, other), by_m, ((0, 0, 0),)), False)


class Bounds(unittest.TestCase):
    def test_exactly_40000(self):
        for names, many in (("", 200), ("ABCDEF", 25), ("AB", 100), ("ABCD", 50)):
            machine = idle(names)
            self.assertEqual(many * many * 2 ** len(names), 40000)
            self.assertIs(shown("same", (machine,), machine, ((0, 0),) * many), True)
            self.assertIs(shown("and", (machine, ONE_ROOM), machine, ((0, 0, 0),) * many), True)
            self.assertIs(shown("not", (machine,), machine, ((0, 0),) * many), False)
            for word, parts in (("same", (machine,)), ("not", (machine,)), ("and", (machine, ONE_ROOM)),
                                ("or", (ONE_ROOM, machine))):
                rows = ((0,) * (len(parts) + 1),) * (many + 1)
                check_refused(self, "TooGreat", shown, word, parts, machine, rows)

    def test_200_unlike_rows(self):
        machine = idle("", 100)
        rows = tuple((a, c) for a in range(100) for c in range(2))
        self.assertIs(shown("same", (machine,), machine, rows), True)
        self.assertIs(shown("same", (machine,), machine, rows[1:] + ((0, 2),)), False)
        check_refused(self, "TooGreat", shown, "same", (machine,), machine, rows + ((0, 2),))

    def test_13_names_and_two_rows(self):
        machine = idle(THIRTEEN)
        self.assertIs(shown("same", (machine,), machine, ((0, 0),) * 2), True)
        check_refused(self, "TooGreat", shown, "same", (machine,), machine, ((0, 0),) * 3)

    def test_ahead_of_all_else(self):
        for rows in (((0, 7),) * 201, ((-1, 0),) * 201, ((1, 1),) * 201):
            check_refused(self, "TooGreat", shown, "same", (ONE_ROOM,), ONE_ROOM, rows)
        self.assertIs(shown("same", (ONE_ROOM,), ONE_ROOM, ((0, 7),) * 200), False)
        check_refused(self, "TooGreat", shown, "not", (idle(THIRTEEN),), idle("z"), ((0, 7),))
        check_refused(self, "TooGreat", shown, "and", (idle(THIRTEEN), ONE_ROOM), idle("z"), ((5, 5, 5),))


class AgainstTheWords(unittest.TestCase):
    def changed(self, chance, rows, rooms):
        rows = list(rows)
        for _ in range(chance.randrange(3)):
            deed = chance.randrange(4)
            if deed == 0 and rows:
                rows.pop(chance.randrange(len(rows)))
            elif deed == 1 and rows:
                rows.append(chance.choice(rows))
            elif deed == 2:
                rows.append(tuple(chance.randrange(-1, many + 1) for many in rooms))
            else:
                rows.append(tuple(chance.randrange(many) for many in rooms))
        chance.shuffle(rows)
        return tuple(rows)

    def check(self, chance, word, parts, made, rows):
        answers = []
        self.assertIs(shown(word, parts, made, rows), True)
        for _ in range(12):
            machines = parts + (made,)
            other = chance.choice((made, made, turned(made), (made[0], made[1][::-1], made[2])))
            changed = self.changed(chance, rows, [len(machine[1]) for machine in machines])
            answers.append(shown(word, parts, other, changed))
            self.assertIs(answers[-1], shown_by_words(word, parts, other, changed), (word, parts, other, changed))
        return answers

    def test_many_papers(self):
        chance = random.Random(250)
        answers = []
        for _ in range(60):
            one = random_machine(chance, chance.choice(("", "A", "Ax")), chance.randrange(1, 4))
            other = random_machine(chance, chance.choice(("", "A", "Bx")), chance.randrange(1, 4))
            for word, parts, (made, rows) in (("same", (one,), least_of(one)), ("not", (one,), flipped(one)),
                                              ("and", (one, other), both(one, other)),
                                              ("or", (one, other), either(one, other))):
                answers.extend(self.check(chance, word, parts, made, rows))
        self.assertTrue(answers.count(True) > 100 and answers.count(False) > 100)

    def test_any_rows(self):
        chance = random.Random(251)
        answers = []
        for _ in range(3000):
            parts = tuple(random_machine(chance, chance.choice(("", "A", "B")), 2) for _ in range(chance.randrange(1, 3)))
            made = random_machine(chance, chance.choice(("", "A")), 2)
            many = chance.randrange(1, 7)
            rows = ((0,) * (len(parts) + 1),) + tuple(
                tuple(chance.randrange(2) for _ in range(len(parts) + 1)) for _ in range(many))
            for word in ("same", "not") if len(parts) == 1 else ("and", "or"):
                answers.append(shown(word, parts, made, rows))
                self.assertIs(answers[-1], shown_by_words(word, parts, made, rows))
        self.assertTrue(answers.count(True) > 50 and answers.count(False) > 50, answers.count(True))


if __name__ == "__main__":
    unittest.main()
