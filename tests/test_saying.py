import itertools
import unittest

from trunksay.saying import read_statement, statement_text
from trunksay.statements import parts_many

from tests.helping import check_refused, every_form, is_plain

EXAMPLE = "all x ( not x in A or some y ( y left x and y in B ) )"


def longest():
    """A statement of 30 parts whose text is as long as any."""
    statement = ("below", "a", "b")
    for _ in range(14):
        statement = ("and", statement, ("right", "x", "Y"))
    return ("some", "z", statement)


def texts_of(many, letters):
    """All texts of statements of so many words, over some letters, by the forms of the document."""
    found = []
    if many == 2:
        found.extend("one " + letter for letter in letters)
    if many == 3:
        found.extend(one + " " + word + " " + other for one in letters for other in letters
                     for word in ("in", "left", "right", "below"))
    if many > 3:
        found.extend(word + " " + letter + " " + text for word in ("some", "all") for letter in letters
                     for text in texts_of(many - 2, letters))
        for first in range(2, many - 4):
            found.extend("( " + one + " " + word + " " + other + " )" for word in ("and", "or")
                         for one in texts_of(first, letters) for other in texts_of(many - 3 - first, letters))
    if many > 2:
        found.extend("not " + text for text in texts_of(many - 1, letters))
    return found


class WrittenAndRead(unittest.TestCase):
    def test_the_example(self):
        statement = ("all", "x", ("or", ("not", ("in", "x", "A")),
                                  ("some", "y", ("and", ("left", "y", "x"), ("in", "y", "B")))))
        self.assertEqual(statement_text(statement), EXAMPLE)
        self.assertEqual(read_statement(EXAMPLE), statement)

    def test_every_form(self):
        for statement, text in every_form():
            self.assertEqual(statement_text(statement), text)
            self.assertEqual(read_statement(text), statement)
            self.assertTrue(is_plain(read_statement(text)))

    def test_all_rows_of_few_words(self):
        alphabet = (("a", "B", "in", "one", "not", "some", "left", ""), ("a", "one", "(", ")", "and"))
        for words, most in ((alphabet[0], 5), (alphabet[1], 7)):
            texts = {text for many in range(2, most + 1) for text in texts_of(many, "aB")}
            for many in range(most + 1):
                for row in itertools.product(words, repeat=many):
                    text = " ".join(row)
                    if text in texts:
                        self.assertEqual(statement_text(read_statement(text)), text)
                    else:
                        check_refused(self, "NoStatement", read_statement, text)


class Refused(unittest.TestCase):
    def test_no_statement(self):
        for text in ("", " ", "a", "one", "one ", "one ab", "one a ", " one a", "one  a", "a  in b", "a in", "in b",
                     "a in bc", "one 1", "a under b", "a In b", "A IN B", "not", "not a", "some a", "some x x",
                     "some ab one a", "all x", "( one a and one b", "one a and one b )", "one a and one b",
                     "( one a )", "(one a and one b)", "( one a and one b ) )", "( ( one a and one b )",
                     "( one a and one b and one c )", "( one a xor one b )", "( one a one b )", "one a one b",
                     "( one a and )", "( and one a )", "()", "( )", "x in A in B", "one a in b", "some a in b",
                     "one a\n", "one_a", "some one one a", "exists x one x", "[ one a and one b ]"):
            check_refused(self, "NoStatement", read_statement, text)

    def test_a_word_too_many_too_few_or_changed(self):
        words = EXAMPLE.split(" ")
        for place in range(len(words)):
            for change in ([], [words[place]] * 2, ["("], [")"], ["q"], ["not"], ["in"], ["or"], [""]):
                text = " ".join(words[:place] + change + words[place + 1:])
                try:
                    statement = read_statement(text)
                except ValueError:
                    check_refused(self, "NoStatement", read_statement, text)
                else:
                    self.assertEqual(statement_text(statement), text)

    def test_longest_statement(self):
        statement = longest()
        self.assertEqual(parts_many(statement), 30)
        self.assertEqual(len(statement_text(statement)), 268)
        self.assertEqual(read_statement(statement_text(statement)), statement)

    def test_30_and_31_parts(self):
        thirty = "not " * 29 + "one a"
        self.assertEqual(parts_many(read_statement(thirty)), 30)
        self.assertEqual(statement_text(read_statement(thirty)), thirty)
        check_refused(self, "TooGreat", read_statement, "not " + thirty)
        check_refused(self, "TooGreat", read_statement, "all X " * 30 + "a in b")
        wide = "( " * 15 + "one a" + " or one b )" * 15
        self.assertEqual(len(wide.split(" or ")), 16)
        check_refused(self, "TooGreat", read_statement, wide)
        check_refused(self, "TooGreat", read_statement, "not " + statement_text(longest()))

    def test_300_and_301_signs(self):
        many_nots = "not " * 73
        self.assertEqual(len(many_nots + "one abcd"), 300)
        check_refused(self, "NoStatement", read_statement, many_nots + "one abcd")
        check_refused(self, "TooGreat", read_statement, many_nots + "one abcde")
        written = "some x " * 2 + "not " * 70 + "a in b"
        self.assertEqual(len(written), 300)
        check_refused(self, "TooGreat", read_statement, written)
        check_refused(self, "NoStatement", read_statement, "x" * 300)
        check_refused(self, "TooGreat", read_statement, "x" * 301)
        check_refused(self, "TooGreat", read_statement, " " * 301)
        check_refused(self, "TooGreat", read_statement, "one a" + " " * 100000)

    def test_many_parts_and_no_statement(self):
        check_refused(self, "NoStatement", read_statement, "not " * 70 + "one")
        check_refused(self, "NoStatement", read_statement, "not " * 75)
        check_refused(self, "NoStatement", read_statement, "not " * 74 + "not")
        check_refused(self, "NoStatement", read_statement, "( " * 15 + "one a" + " or one b )" * 14)
        check_refused(self, "NoStatement", read_statement, "not " * 40 + "one a )")

    def test_deep_brackets(self):
        check_refused(self, "NoStatement", read_statement, "( " * 150)
        check_refused(self, "NoStatement", read_statement, "( " * 149 + "(")
        check_refused(self, "NoStatement", read_statement, ") " * 149 + ")")
        check_refused(self, "NoStatement", read_statement, "( " * 74 + "a" + " )" * 75)
        deep = "( " * 14 + "one a" + " and one b )" * 14
        self.assertEqual(statement_text(read_statement(deep)), deep)
        deep = "( one b and " * 14 + "one a" + " )" * 14
        self.assertEqual(statement_text(read_statement(deep)), deep)


if __name__ == "__main__":
    unittest.main()
