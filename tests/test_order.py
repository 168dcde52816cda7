import unittest

from trunksay.order import comes_ahead

from tests.helping import chain, nested, trees_over


def marks_ahead(one, other):
    """None where the marks are alike, else whether the first are ahead."""
    for letter in sorted(set(one) ^ set(other)):
        return letter in other
    return None


def size_of(node):
    return 0 if node is None else 1 + size_of(node[0]) + size_of(node[1])


def node_ahead(one, other):
    """None where the nested trees are alike, else whether the first is ahead: by the words of the document."""
    if size_of(one) != size_of(other):
        return size_of(one) < size_of(other)
    if one is None:
        return None
    for side in (0, 1):
        answer = node_ahead(one[side], other[side])
        if answer is not None:
            return answer
    return marks_ahead(one[2], other[2])


class ComesAhead(unittest.TestCase):
    def check_row(self, trees):
        for number, one in enumerate(trees):
            for place, other in enumerate(trees):
                self.assertIs(comes_ahead(one, other), number < place, (one, other))

    def test_marks(self):
        self.check_row([((0, marks),) for marks in ("", "z", "a", "az", "Z", "Zz", "B", "A", "AB", "ABz")])

    def test_the_example(self):
        self.check_row([((0, ""), (2, "")), ((0, ""), (1, ""))])

    def test_fewer_places_first(self):
        self.check_row([(), ((0, "ABC"),), ((0, ""), (2, "")), ((0, ""), (0, ""), (3, ""))])

    def test_left_then_right_then_marks(self):
        self.check_row([
            ((0, ""), (0, "A"), (3, "")),
            ((0, ""), (0, "A"), (3, "B")),
            ((0, "B"), (0, ""), (3, "")),
            ((0, "B"), (0, ""), (3, "A")),
            ((0, "B"), (0, "B"), (3, "")),
        ])

    def test_alike(self):
        for tree in ((), ((0, "A"),), chain(100, "left", "AB")):
            self.assertIs(comes_ahead(tree, tree), False)

    def test_all_small_trees(self):
        trees = []
        for size in range(4):
            trees.extend(trees_over(size, ("", "A", "x", "Ax")[:4 - max(0, size - 2)]))
        nodes = [nested(tree) for tree in trees]
        for one, one_node in zip(trees, nodes):
            for other, other_node in zip(trees, nodes):
                self.assertIs(comes_ahead(one, other), node_ahead(one_node, other_node) is True)

    def test_chains(self):
        left = chain(100, "left")
        right = chain(100, "right")
        self.check_row([right, ((0, "A"),) + right[1:], left, ((0, "x"),) + left[1:], ((0, "A"),) + left[1:]])
        self.assertIs(comes_ahead(left[:99], right), True)


if __name__ == "__main__":
    unittest.main()
