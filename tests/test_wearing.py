import unittest

from trunksay.wearing import borne_by, dressed_in

from tests.helping import chain, check_refused, is_plain

TREE = ((0, "Ax"), (0, "B"), (3, "ABx"))


class BorneBy(unittest.TestCase):
    def test_borne(self):
        self.assertEqual(borne_by(TREE, "A"), (0, 2))
        self.assertEqual(borne_by(TREE, "B"), (1, 2))
        self.assertEqual(borne_by(TREE, "x"), (0, 2))
        self.assertEqual(borne_by(TREE, "X"), ())
        self.assertEqual(borne_by((), "A"), ())
        self.assertEqual(borne_by(chain(100, "left", "A"), "A"), tuple(range(100)))
        self.assertTrue(is_plain(borne_by(TREE, "A")))


class DressedIn(unittest.TestCase):
    def test_on_none(self):
        self.assertEqual(dressed_in(TREE, "x", ()), ((0, "A"), (0, "B"), (3, "AB")))
        self.assertEqual(dressed_in(TREE, "y", ()), TREE)
        self.assertEqual(dressed_in((), "A", ()), ())

    def test_on_some(self):
        self.assertEqual(dressed_in(TREE, "A", (1,)), ((0, "x"), (0, "AB"), (3, "Bx")))
        self.assertEqual(dressed_in(TREE, "a", (0, 2)), ((0, "Aax"), (0, "B"), (3, "ABax")))

    def test_on_all_in_any_order_and_twice(self):
        answer = ((0, "ACx"), (0, "BC"), (3, "ABCx"))
        for places in ((0, 1, 2), (2, 0, 1), (1, 1, 2, 0, 2, 2)):
            self.assertEqual(dressed_in(TREE, "C", places), answer)

    def test_what_bears_it_already(self):
        self.assertEqual(dressed_in(TREE, "A", (0, 2)), TREE)

    def test_chain(self):
        self.assertEqual(dressed_in(chain(100, "right", "A"), "B", tuple(range(100))), chain(100, "right", "AB"))

    def test_no_place(self):
        for number in (-1, 3, 4, 10 ** 5000, -10 ** 5000):
            check_refused(self, "NoPlace", dressed_in, TREE, "A", (number,))
            check_refused(self, "NoPlace", dressed_in, TREE, "A", (0, 1, number))
            check_refused(self, "NoPlace", dressed_in, TREE, "A", (number, 0))
        check_refused(self, "NoPlace", dressed_in, (), "A", (0,))

    def test_kinds(self):
        self.assertTrue(is_plain(dressed_in(TREE, "A", (1,))))


if __name__ == "__main__":
    unittest.main()
