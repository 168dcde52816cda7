import itertools
import unittest

from trunksay.treetext import read_tree, tree_text

from tests.helping import chain, check_refused, is_plain, trees_over

WRITTEN = (
    ("-", ()), ("0", ((0, ""),)), ("0Az", ((0, "Az"),)), ("0 1", ((0, ""), (1, ""))), ("0B 2x", ((0, "B"), (2, "x"))),
    ("0A 0 3xy", ((0, "A"), (0, ""), (3, "xy"))),
)


class TreeTexts(unittest.TestCase):
    def test_written_and_read(self):
        for text, tree in WRITTEN:
            self.assertEqual(tree_text(tree), text)
            self.assertEqual(read_tree(text), tree)
            self.assertTrue(is_plain(read_tree(text)))

    def test_all_small_trees_there_and_back(self):
        for size in range(5):
            for tree in trees_over(size, ("", "Bx")):
                self.assertEqual(read_tree(tree_text(tree)), tree)

    def test_all_short_texts(self):
        trees = [tree for size in range(4) for tree in trees_over(size, ("", "A", "x", "Ax"))]
        texts = {tree_text(tree): tree for tree in trees}
        for length in range(6):
            for signs in itertools.product("012Ax -", repeat=length):
                text = "".join(signs)
                if text in texts:
                    self.assertEqual(read_tree(text), texts[text])
                else:
                    check_refused(self, "NoTree", read_tree, text)

    def test_no_tree(self):
        for text in ("", " ", " 0", "0 ", "0  1", "0 0", "1", "2", "3", "0 3", "0 0 0 3", "0xA", "0AA", "4", "0 4",
                     "A", "A0", "00", "01", "0-", "- ", " -", "--", "0 -", "- 0", "0\n", "0.", "0 a", "0A B", "-1",
                     "0 0 3 3", "0 0 3yx", "0A1"):
            check_refused(self, "NoTree", read_tree, text)

    def test_100_places(self):
        for side in ("left", "right"):
            long = chain(100, side, "Ax")
            self.assertEqual(read_tree(tree_text(long)), long)

    def test_blanks_at_the_bound(self):
        check_refused(self, "TooGreat", read_tree, tree_text(chain(101, "left")))
        check_refused(self, "TooGreat", read_tree, " " * 100)
        check_refused(self, "TooGreat", read_tree, "no tree at all" + " " * 97)
        check_refused(self, "TooGreat", read_tree, " " * 5000)
        check_refused(self, "NoTree", read_tree, " " * 99)
        check_refused(self, "NoTree", read_tree, "no tree at all" + " " * 96)
        check_refused(self, "NoTree", read_tree, tree_text(chain(99, "left")) + " ")
        check_refused(self, "NoTree", read_tree, "0" * 5000)


if __name__ == "__main__":
    unittest.main()
