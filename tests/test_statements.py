import unittest

from trunksay.statements import names_of, parts_many

from tests.helping import every_form


class PartsAndNames(unittest.TestCase):
    def test_plain_ones(self):
        self.assertEqual(names_of(("one", "x")), "x")
        for word in ("in", "left", "right", "below"):
            self.assertEqual(names_of((word, "x", "A")), "Ax")
            self.assertEqual(names_of((word, "A", "x")), "Ax")
            self.assertEqual(names_of((word, "b", "b")), "b")
            self.assertEqual(parts_many((word, "x", "A")), 1)
        self.assertEqual(parts_many(("one", "x")), 1)

    def test_joined_ones(self):
        one = ("in", "z", "A")
        other = ("left", "B", "A")
        self.assertEqual(names_of(("not", one)), "Az")
        self.assertEqual(parts_many(("not", one)), 2)
        for word in ("and", "or"):
            self.assertEqual(names_of((word, one, other)), "ABz")
            self.assertEqual(parts_many((word, one, other)), 3)
            self.assertEqual(parts_many((word, one, one)), 3)

    def test_bound_letters(self):
        inner = ("in", "x", "A")
        for word in ("some", "all"):
            self.assertEqual(names_of((word, "x", inner)), "A")
            self.assertEqual(names_of((word, "A", inner)), "x")
            self.assertEqual(names_of((word, "q", inner)), "Ax")
            self.assertEqual(names_of((word, "x", (word, "A", inner))), "")
            self.assertEqual(names_of((word, "x", (word, "x", inner))), "A")
            self.assertEqual(parts_many((word, "x", inner)), 2)

    def test_a_letter_bound_in_one_place_alone(self):
        self.assertEqual(names_of(("and", ("some", "x", ("one", "x")), ("one", "x"))), "x")
        self.assertEqual(names_of(("some", "x", ("and", ("one", "x"), ("one", "y")))), "y")

    def test_30_parts(self):
        deep = ("one", "a")
        for _ in range(29):
            deep = ("not", deep)
        self.assertEqual(parts_many(deep), 30)
        self.assertEqual(names_of(deep), "a")
        wide = ("one", "a")
        for letter in "bcdefghijklmno":
            wide = ("or", ("one", letter), wide)
        self.assertEqual(parts_many(wide), 29)
        self.assertEqual(names_of(wide), "abcdefghijklmno")

    def test_every_form(self):
        for statement, text in every_form():
            words = text.split(" ")
            # Of the words of a text each part has just one that is longer than a sign.
            heads = [word for word in words if len(word) > 1]
            self.assertEqual(parts_many(statement), len(heads))


if __name__ == "__main__":
    unittest.main()
