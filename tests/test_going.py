import random
import unittest

from trunksay.going import holds, ways_of

from tests.helping import Said, chain, check_refused, every_form, random_statement, trees_over

FALSE = ("and", ("one", "a"), ("not", ("one", "a")))


class Ways(unittest.TestCase):
    def test_plain_not_and_or(self):
        one, other = ("in", "a", "b"), ("not", ("one", "a"))
        for size in (0, 1, 2, 100):
            self.assertEqual(ways_of(one, size), 1)
            self.assertEqual(ways_of(other, size), 1)
            self.assertEqual(ways_of(("and", one, other), size), 2)
            self.assertEqual(ways_of(("or", ("and", one, other), other), size), 3)

    def test_bound_letters(self):
        for word in ("some", "all"):
            for size, small, great in ((0, 1, 1), (1, 1, 2), (2, 2, 4), (3, 3, 8), (100, 100, 2 ** 100)):
                self.assertEqual(ways_of((word, "x", ("one", "x")), size), small)
                self.assertEqual(ways_of((word, "X", ("one", "x")), size), great)
                self.assertEqual(ways_of((word, "X", ("and", ("one", "x"), (word, "x", ("one", "x")))), size),
                                 great * (1 + small))
                self.assertEqual(ways_of((word, "X", (word, "X", ("one", "x"))), size), great * great)

    def test_30_parts(self):
        deep = ("one", "a")
        for _ in range(29):
            deep = ("some", "A", deep)
        self.assertEqual(ways_of(deep, 0), 1)
        self.assertEqual(ways_of(deep, 100), 2 ** 2900)


class WaysAtTheBound(unittest.TestCase):
    def test_great_letters(self):
        told = ("all", "X", ("in", "X", "X"))
        self.assertIs(holds(told, chain(12, "left")), True)
        check_refused(self, "TooGreat", holds, told, chain(13, "left"))
        two = ("all", "X", ("some", "Y", ("in", "X", "Y")))
        self.assertEqual(ways_of(two, 6), 4096)
        self.assertIs(holds(two, chain(6, "right")), True)
        check_refused(self, "TooGreat", holds, two, chain(7, "right"))

    def test_small_letters(self):
        told = ("all", "x", ("some", "y", ("in", "x", "y")))
        self.assertEqual(ways_of(told, 64), 4096)
        self.assertIs(holds(told, chain(64, "left")), True)
        check_refused(self, "TooGreat", holds, told, chain(65, "left"))

    def test_one_above(self):
        told = ("all", "X", ("in", "X", "X"))
        for word in ("and", "or"):
            one_more = (word, told, ("one", "A"))
            self.assertEqual(ways_of(one_more, 12), 4097)
            check_refused(self, "TooGreat", holds, one_more, chain(12, "left"))
            check_refused(self, "TooGreat", holds, (word, ("one", "A"), told), chain(12, "left", "A"))
        both = ("and", told, ("not", told))
        self.assertEqual(ways_of(both, 11), 4096)
        self.assertIs(holds(both, chain(11, "left")), False)
        check_refused(self, "TooGreat", holds, ("or", both, ("one", "A")), chain(11, "left"))

    def test_refused_even_where_the_answer_could_be_told_sooner(self):
        tree = chain(100, "left", "A")
        check_refused(self, "TooGreat", holds, ("some", "X", ("in", "X", "X")), tree)
        check_refused(self, "TooGreat", holds, ("all", "X", FALSE), tree)
        check_refused(self, "TooGreat", holds, ("and", ("one", "A"), ("all", "X", ("one", "X"))), tree)
        check_refused(self, "TooGreat", holds, ("or", ("in", "A", "A"), ("all", "X", ("one", "X"))), tree)
        check_refused(self, "TooGreat", holds, ("some", "x", ("some", "y", ("one", "x"))), tree)

    def test_not_refused(self):
        tree = chain(100, "left", "A")
        self.assertIs(holds(("all", "x", ("in", "x", "A")), tree), True)
        self.assertIs(holds(("some", "x", ("not", ("in", "x", "A"))), tree), False)
        deep = ("one", "a")
        for _ in range(29):
            deep = ("all", "A", deep)
        self.assertIs(holds(deep, ()), False)
        check_refused(self, "TooGreat", holds, deep, ((0, ""),))


class Holds(unittest.TestCase):
    def test_the_empty_tree(self):
        for inner in (("one", "x"), ("in", "x", "x"), ("not", ("in", "x", "x"))):
            self.assertIs(holds(("some", "x", inner), ()), False)
            self.assertIs(holds(("all", "x", inner), ()), True)
            for word in ("some", "all"):
                self.assertIs(holds((word, "X", inner), ()), holds(inner, ()))

    def test_where_no_place_bears_the_first_letter(self):
        for tree in ((), ((0, ""),), chain(100, "right", "B")):
            for word in ("in", "left", "right", "below"):
                self.assertIs(holds((word, "A", "B"), tree), True)
            self.assertIs(holds(("one", "A"), tree), False)

    def test_left_and_right(self):
        fork = ((0, "A"), (0, "B"), (3, "C"))
        for word, letters, answer in (("left", "AC", True), ("right", "AC", False), ("left", "BC", False),
                                      ("right", "BC", True), ("left", "CC", False), ("right", "CC", False),
                                      ("left", "CA", False), ("left", "AB", False), ("left", "AA", False)):
            self.assertIs(holds((word,) + tuple(letters), fork), answer, (word, letters))

    def test_below(self):
        tree = ((0, "A"), (1, ""), (2, "B"), (0, "A"), (3, "C"))
        self.assertIs(holds(("below", "A", "C"), tree), True)
        self.assertIs(holds(("below", "A", "B"), tree), False)
        self.assertIs(holds(("below", "B", "B"), tree), False)
        self.assertIs(holds(("below", "C", "C"), tree), False)
        self.assertIs(holds(("below", "A", "B"), tree[:3]), True)
        self.assertIs(holds(("left", "A", "B"), tree[:3]), False)
        long = ((0, "A"),) + chain(100, "left")[1:99] + ((1, "B"),)
        self.assertIs(holds(("below", "A", "B"), long), True)
        self.assertIs(holds(("below", "B", "A"), long), False)

    def test_one(self):
        self.assertIs(holds(("one", "A"), ((0, "A"),)), True)
        self.assertIs(holds(("one", "A"), ((0, "A"), (1, "A"))), False)

    def test_a_letter_that_the_tree_bears_already(self):
        tree = ((0, "x"), (1, "x"))
        self.assertIs(holds(("one", "x"), tree), False)
        self.assertIs(holds(("some", "x", ("one", "x")), tree), True)
        self.assertIs(holds(("all", "X", ("not", ("one", "X"))), ((0, "X"),)), False)

    def test_a_letter_bound_twice(self):
        tree = ((0, ""), (1, "A"))
        top = ("in", "x", "A")
        self.assertIs(holds(("some", "x", ("and", top, ("some", "x", ("not", top)))), tree), True)
        self.assertIs(holds(("some", "x", ("all", "x", top)), tree), False)
        self.assertIs(holds(("all", "x", ("some", "x", top)), tree), True)

    def test_sets_of_none_and_of_all(self):
        tree = chain(3, "left", "A")
        none = ("all", "x", ("not", ("in", "x", "X")))
        every = ("in", "A", "X")
        self.assertIs(holds(("some", "X", none), tree), True)
        self.assertIs(holds(("some", "X", every), tree), True)
        self.assertIs(holds(("all", "X", ("not", none)), tree), False)
        self.assertIs(holds(("all", "X", ("not", every)), tree), False)

    def test_the_example(self):
        said = ("all", "x", ("or", ("not", ("in", "x", "A")),
                             ("some", "y", ("and", ("left", "y", "x"), ("in", "y", "B")))))
        self.assertIs(holds(said, ((0, "B"), (1, "A"))), True)
        self.assertIs(holds(said, ((0, "B"), (2, "A"))), False)
        self.assertIs(holds(said, ((0, "A"), (1, "A"))), False)
        self.assertIs(holds(said, ()), True)

    def test_every_form_against_the_plain_words(self):
        trees = [tree for size in range(4) for tree in trees_over(size, ("", "A", "Bx"))][::5]
        for statement, _ in every_form():
            for tree in trees:
                self.assertIs(holds(statement, tree), Said(tree).true(statement), (statement, tree))

    def test_many_statements_against_the_plain_words(self):
        chance = random.Random(17)
        trees = [tree for size in range(4) for tree in trees_over(size, ("", "A", "xy", "AX")[:5 - size])]
        for _ in range(3000):
            statement = random_statement(chance, chance.randrange(1, 9))
            tree = chance.choice(trees)
            if ways_of(statement, len(tree)) <= 4096:
                self.assertIs(holds(statement, tree), Said(tree).true(statement), (statement, tree))
            else:
                check_refused(self, "TooGreat", holds, statement, tree)


if __name__ == "__main__":
    unittest.main()
