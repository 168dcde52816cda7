import itertools
import string
import unittest

from trunksay.names import ALL_LETTERS, in_order, is_letter, is_row, is_small, letter_of, marks_of


class Letters(unittest.TestCase):
    def test_the_letters_are_just_the_52(self):
        signs = [chr(code) for code in range(32, 127)]
        self.assertEqual("".join(sign for sign in signs if is_letter(sign)),
                         string.ascii_uppercase + string.ascii_lowercase)

    def test_answers_are_truths(self):
        for text in ("", "A", "z", "@", "[", "`", "{", "AB", "Aa", " ", " A", "A ", "not"):
            self.assertIs(is_letter(text), text in ("A", "z"), text)

    def test_small_and_great(self):
        for letter in string.ascii_lowercase:
            self.assertIs(is_small(letter), True)
        for letter in string.ascii_uppercase:
            self.assertIs(is_small(letter), False)


class InOrder(unittest.TestCase):
    def test_no_letter(self):
        self.assertEqual(in_order(""), "")

    def test_great_letters_stand_ahead_of_small_ones(self):
        self.assertEqual(in_order("aZbA"), "AZab")

    def test_each_letter_once(self):
        self.assertEqual(in_order("xAxAABx"), "ABx")

    def test_all_letters_backwards(self):
        self.assertEqual(in_order(ALL_LETTERS[::-1] * 2), string.ascii_uppercase + string.ascii_lowercase)

    def test_rows(self):
        for text, answer in (("", True), ("A", True), ("ABx", True), ("xA", False), ("AA", False), ("A x", False),
                             ("1", False)):
            self.assertIs(is_row(text), answer, text)


class NumbersOfMarks(unittest.TestCase):
    def test_the_example(self):
        for marks, number in (("x", 1), ("A", 2), ("Ax", 3), ("", 0), ("By", 0)):
            self.assertEqual(letter_of("Ax", marks), number)

    def test_other_letters_are_not_looked_at(self):
        self.assertEqual(letter_of("Ax", "ABxy"), 3)

    def test_over_no_names(self):
        self.assertEqual(letter_of("", "ABx"), 0)
        self.assertEqual(marks_of("", 0), "")

    def test_first_name_weighs_most(self):
        self.assertEqual(letter_of("ABCx", "A"), 8)
        self.assertEqual(marks_of("ABCx", 8), "A")
        self.assertEqual(marks_of("ABCx", 6), "BC")

    def test_each_number_is_that_of_just_one_row(self):
        names = "BDaz"
        rows = ["".join(chosen) for many in range(5) for chosen in itertools.combinations(names, many)]
        self.assertEqual(sorted(letter_of(names, row) for row in rows), list(range(16)))
        for row in rows:
            self.assertEqual(marks_of(names, letter_of(names, row)), row)

    def test_all_52_names(self):
        self.assertEqual(letter_of(ALL_LETTERS, "A"), 2 ** 51)
        self.assertEqual(marks_of(ALL_LETTERS, 2 ** 52 - 1), ALL_LETTERS)
        self.assertEqual(marks_of(ALL_LETTERS, 2 ** 51 + 1), "Az")

    def test_kinds(self):
        self.assertIs(type(letter_of("Ax", "x")), int)
        self.assertIs(type(marks_of("Ax", 1)), str)


if __name__ == "__main__":
    unittest.main()
