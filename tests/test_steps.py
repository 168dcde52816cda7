import itertools
import unittest

from trunksay.steps import steps_of
from trunksay.going import holds
from trunksay.wearing import dressed_in

from tests.helping import every_form, is_plain, trees_over

PLAIN = (("in", "x", "A"), ("one", "x"), ("left", "x", "A"), ("right", "x", "A"), ("below", "x", "A"))


def step_true(steps, number, tree):
    """What a step says of a tree, by the words of the document."""
    step = steps[number]
    if step[0] == "not":
        return not step_true(steps, step[1], tree)
    if step[0] in ("and", "or"):
        answers = [step_true(steps, each, tree) for each in step[1:]]
        return all(answers) if step[0] == "and" else any(answers)
    if step[0] == "hide":
        return any(step_true(steps, step[2], dressed_in(tree, step[1], places))
                   for many in range(len(tree) + 1) for places in itertools.combinations(range(len(tree)), many))
    return holds(step, tree)


class Steps(unittest.TestCase):
    def test_plain_ones(self):
        for statement in PLAIN:
            self.assertEqual(steps_of(statement), (statement,))

    def test_not_and_or(self):
        one, other = ("in", "a", "b"), ("one", "c")
        self.assertEqual(steps_of(("not", one)), (one, ("not", 0)))
        self.assertEqual(steps_of(("not", ("not", one))), (one, ("not", 0), ("not", 1)))
        for word in ("and", "or"):
            self.assertEqual(steps_of((word, one, other)), (one, other, (word, 0, 1)))
            self.assertEqual(steps_of((word, ("not", one), ("not", other))),
                             (one, ("not", 0), other, ("not", 2), (word, 1, 3)))

    def test_some(self):
        inner = ("in", "x", "A")
        self.assertEqual(steps_of(("some", "A", inner)), (inner, ("hide", "A", 0)))
        self.assertEqual(steps_of(("some", "x", inner)), (("one", "x"), inner, ("and", 0, 1), ("hide", "x", 2)))
        self.assertEqual(steps_of(("some", "x", ("not", inner))),
                         (("one", "x"), inner, ("not", 1), ("and", 0, 2), ("hide", "x", 3)))

    def test_all(self):
        inner = ("in", "x", "A")
        self.assertEqual(steps_of(("all", "A", inner)), (inner, ("not", 0), ("hide", "A", 1), ("not", 2)))
        self.assertEqual(steps_of(("all", "x", inner)),
                         (("one", "x"), inner, ("not", 1), ("and", 0, 2), ("hide", "x", 3), ("not", 4)))

    def test_numbers_are_those_in_the_whole_tuple(self):
        left = ("or", ("one", "a"), ("one", "b"))
        self.assertEqual(steps_of(("and", left, ("some", "x", ("all", "Y", ("left", "x", "Y"))))), (
            ("one", "a"), ("one", "b"), ("or", 0, 1),
            ("one", "x"), ("left", "x", "Y"), ("not", 4), ("hide", "Y", 5), ("not", 6), ("and", 3, 7), ("hide", "x", 8),
            ("and", 2, 9),
        ))
        self.assertEqual(steps_of(("or", ("one", "a"), ("all", "x", ("below", "x", "B")))), (
            ("one", "a"), ("one", "x"), ("below", "x", "B"), ("not", 2), ("and", 1, 3), ("hide", "x", 4), ("not", 5),
            ("or", 0, 6),
        ))

    def test_alike_steps_stand_as_often_as_they_come(self):
        one = ("one", "x")
        self.assertEqual(steps_of(("and", one, one)), (one, one, ("and", 0, 1)))
        self.assertEqual(steps_of(("some", "x", one)), (one, one, ("and", 0, 1), ("hide", "x", 2)))

    def test_30_parts(self):
        deep = ("in", "a", "b")
        for _ in range(29):
            deep = ("all", "x", deep)
        steps = steps_of(deep)
        self.assertEqual(len(steps), 1 + 29 * 5)
        self.assertEqual(steps[:29], (("one", "x"),) * 29)
        self.assertEqual(steps[-3:], (("and", 0, 142), ("hide", "x", 143), ("not", 144)))
        self.assertTrue(is_plain(steps))

    def test_the_last_step_says_what_the_statement_says(self):
        trees = [tree for size in range(3) for tree in trees_over(size, ("", "A", "Bx"))]
        for statement, _ in every_form()[::7]:
            steps = steps_of(statement)
            for tree in trees[::3]:
                self.assertEqual(step_true(steps, len(steps) - 1, tree), holds(statement, tree), (statement, tree))


if __name__ == "__main__":
    unittest.main()
