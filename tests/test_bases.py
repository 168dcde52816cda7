import unittest

from trunksay.bases import base_of
from trunksay.going import holds
from trunksay.runs import lets_by

from tests.helping import bushy, chain, is_machine, ordered_trees, trees_over

TWO_ROOMED = ("in", "below")
TWO_LETTERED = ("in", "left", "right", "below")


def room_by_table(word, l, r, a, b):
    """The room, by the document's table, case by case."""
    if word == "in":
        return 1 if l == 1 or r == 1 or (a and not b) else 0
    if word == "one":
        return {0: 0, 1: 1}.get(l + r + int(a), 2)
    if word == "left":
        bad = l == 2 or r != 0 or (l == 1 and not b)
        return 2 if bad else 1 if a else 0
    if word == "right":
        bad = r == 2 or l != 0 or (r == 1 and not b)
        return 2 if bad else 1 if a else 0
    return 1 if a or (not b and 1 in (l, r)) else 0


class WrittenOut(unittest.TestCase):
    """Each entry of the table, in numbers that were reckoned by hand."""

    def test_in(self):
        low, high = ((0, 1), (1, 1)), ((1, 1), (1, 1))
        self.assertEqual(base_of(("in", "A", "B")), ("AB", (True, False), (low, low, high, low)))
        self.assertEqual(base_of(("in", "B", "A")), ("AB", (True, False), (low, high, low, low)))
        self.assertEqual(base_of(("in", "A", "A")), ("A", (True, False), (low, low)))

    def test_one(self):
        self.assertEqual(base_of(("one", "x")), ("x", (False, True, False), (
            ((0, 1, 2), (1, 2, 2), (2, 2, 2)),
            ((1, 2, 2), (2, 2, 2), (2, 2, 2)))))

    def test_left(self):
        never = (2, 2, 2)
        self.assertEqual(base_of(("left", "x", "A")), ("Ax", (True, False, False), (
            ((0, 2, 2), never, never),
            ((1, 2, 2), never, never),
            ((0, 2, 2), (0, 2, 2), never),
            ((1, 2, 2), (1, 2, 2), never))))
        self.assertEqual(base_of(("left", "x", "x")), ("x", (True, False, False), (
            ((0, 2, 2), never, never),
            ((1, 2, 2), (1, 2, 2), never))))

    def test_right(self):
        never = (2, 2, 2)
        self.assertEqual(base_of(("right", "x", "A")), ("Ax", (True, False, False), (
            ((0, 2, 2), never, never),
            ((1, 2, 2), never, never),
            ((0, 0, 2), never, never),
            ((1, 1, 2), never, never))))
        self.assertEqual(base_of(("right", "x", "x")), ("x", (True, False, False), (
            ((0, 2, 2), never, never),
            ((1, 1, 2), never, never))))

    def test_below(self):
        some, none, every = ((0, 1), (1, 1)), ((0, 0), (0, 0)), ((1, 1), (1, 1))
        self.assertEqual(base_of(("below", "A", "B")), ("AB", (True, False), (some, none, every, every)))
        self.assertEqual(base_of(("below", "B", "A")), ("AB", (True, False), (some, every, none, every)))
        self.assertEqual(base_of(("below", "A", "A")), ("A", (True, False), (some, every)))


class Bases(unittest.TestCase):
    def test_each_entry(self):
        for word in TWO_LETTERED + ("one",):
            for a, b in (("A", "B"), ("B", "A"), ("x", "Y"), ("Y", "x"), ("a", "b"), ("z", "z")):
                statement = (word, a) if word == "one" else (word, a, b)
                names = "".join(sorted(set(statement[1:])))
                machine = base_of(statement)
                rooms = 2 if word in TWO_ROOMED else 3
                self.assertTrue(is_machine(machine))
                self.assertEqual(machine[0], names)
                self.assertEqual(machine[1], tuple(room == (1 if word == "one" else 0) for room in range(rooms)))
                for letter in range(2 ** len(names)):
                    borne = [name for place, name in enumerate(reversed(names)) if letter >> place & 1]
                    for l in range(rooms):
                        for r in range(rooms):
                            self.assertEqual(machine[2][letter][l][r],
                                             room_by_table(word, l, r, a in borne, b in borne), (statement, letter, l, r))

    def test_against_the_words_of_the_statement_for_all_small_trees(self):
        for word in TWO_LETTERED + ("one",):
            for letters in ("AB", "BA", "xA", "AA"):
                statement = (word,) + tuple(letters[:1] if word == "one" else letters)
                machine = base_of(statement)
                for size in range(4):
                    for tree in ordered_trees(size, machine[0]):
                        self.assertIs(lets_by(machine, tree), holds(statement, tree), (statement, tree))
                for tree in trees_over(4, ("", "ABx", "AC")):
                    self.assertIs(lets_by(machine, tree), holds(statement, tree), (statement, tree))

    def test_great_trees(self):
        marks = ("A", "B", "AB", "", "x")
        for word in TWO_LETTERED + ("one",):
            for letters in ("AB", "BA", "AA", "xA", "yA"):
                statement = (word,) + tuple(letters[:1] if word == "one" else letters)
                for number, first in enumerate(marks):
                    for tree in (chain(100, "left", first), chain(100, "right", first), bushy(100, iter([first] * 100)),
                                 ((0, marks[number - 1]),) + chain(100, "left", first)[1:],
                                 ((0, marks[number - 1]),) + chain(100, "right", first)[1:]):
                        self.assertIs(lets_by(base_of(statement), tree), holds(statement, tree), (statement, tree))


if __name__ == "__main__":
    unittest.main()
