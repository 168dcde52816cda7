import itertools
import unittest

from trunksay.trees import branch_put, is_tree, joined, links_of, part_at, sizes_of, taken_apart

from tests.helping import chain, check_refused, is_plain, nested, trees_over

FORK = ((0, "A"), (0, ""), (3, "xy"))
#        0: left of 1      2, 3: right of 4   4: right of 5, the top
WIDE = ((0, "A"), (1, "B"), (0, "C"), (0, "D"), (3, "E"), (3, "F"))
NO_PLACES = (-1, -2, -100, -10 ** 5000, 10 ** 5000)


def nested_size(node):
    return 0 if node is None else 1 + nested_size(node[0]) + nested_size(node[1])


def nested_places(node):
    """The nodes of a nested tree in the order of their numbers."""
    return [] if node is None else nested_places(node[0]) + nested_places(node[1]) + [node]


class IsTree(unittest.TestCase):
    def test_the_empty_tree(self):
        self.assertIs(is_tree(()), True)

    def test_one_place(self):
        for branches in range(4):
            self.assertIs(is_tree(((branches, "A"),)), branches == 0)

    def test_all_rows_of_branches(self):
        for size in range(6):
            trees = set(trees_over(size, ("",)))
            for row in itertools.product(range(4), repeat=size):
                places = tuple((branches, "") for branches in row)
                self.assertIs(is_tree(places), places in trees, places)

    def test_above_100_places(self):
        for size in (100, 101, 5000):
            for side in ("left", "right"):
                long = chain(size, side)
                self.assertIs(is_tree(long), True)
                self.assertIs(is_tree(long[1:]), False)
                self.assertIs(is_tree(long + ((0, ""),)), False)

    def test_items_that_are_no_places(self):
        for item in ((4, ""), (-1, ""), (0, "BA"), (0, "AA"), (0, "1"), (0, " "), (False, ""), (0,)):
            self.assertIs(is_tree((item,)), False, item)


class LinksAndSizes(unittest.TestCase):
    def test_the_empty_tree(self):
        self.assertEqual(links_of(()), ())
        self.assertEqual(sizes_of(()), ())

    def test_one_place(self):
        self.assertEqual(links_of(((0, "A"),)), ((None, None),))
        self.assertEqual(sizes_of(((0, "A"),)), (1,))

    def test_left_and_right(self):
        self.assertEqual(links_of(((0, ""), (1, ""))), ((None, None), (0, None)))
        self.assertEqual(links_of(((0, ""), (2, ""))), ((None, None), (None, 0)))
        self.assertEqual(links_of(FORK), ((None, None), (None, None), (0, 1)))
        self.assertEqual(links_of(WIDE), ((None, None), (0, None), (None, None), (None, None), (2, 3), (1, 4)))
        self.assertEqual(sizes_of(WIDE), (1, 2, 1, 1, 3, 6))

    def test_all_small_trees(self):
        for size in range(6):
            for tree in trees_over(size, ("",)):
                nodes = nested_places(nested(tree))
                self.assertEqual([node[3] for node in nodes], list(range(size)))
                self.assertEqual(sizes_of(tree), tuple(nested_size(node) for node in nodes))
                self.assertEqual(links_of(tree), tuple((node[0] and node[0][3], node[1] and node[1][3])
                                                       for node in nodes))

    def test_chains(self):
        self.assertEqual(sizes_of(chain(100, "left")), tuple(range(1, 101)))
        self.assertEqual(links_of(chain(100, "right")),
                         ((None, None),) + tuple((None, number) for number in range(99)))

    def test_kinds(self):
        self.assertTrue(is_plain(links_of(WIDE)))
        self.assertTrue(is_plain(sizes_of(WIDE)))


class Parts(unittest.TestCase):
    def test_parts(self):
        self.assertEqual(part_at(WIDE, 0), ((0, "A"),))
        self.assertEqual(part_at(WIDE, 1), ((0, "A"), (1, "B")))
        self.assertEqual(part_at(WIDE, 3), ((0, "D"),))
        self.assertEqual(part_at(WIDE, 4), ((0, "C"), (0, "D"), (3, "E")))
        self.assertEqual(part_at(WIDE, 5), WIDE)

    def test_each_part_is_a_tree(self):
        for tree in trees_over(4, ("",)):
            for place in range(4):
                part = part_at(tree, place)
                self.assertTrue(is_tree(part))
                self.assertEqual(len(part), sizes_of(tree)[place])

    def test_chain(self):
        self.assertEqual(part_at(chain(100, "right", "Q"), 49), chain(50, "right", "Q"))

    def test_no_place(self):
        check_refused(self, "NoPlace", part_at, (), 0)
        for place in NO_PLACES + (6, 7, 100):
            check_refused(self, "NoPlace", part_at, WIDE, place)


class JoinedAndTakenApart(unittest.TestCase):
    def test_joined(self):
        one = ((0, "A"),)
        other = ((0, "B"),)
        self.assertEqual(joined((), (), "x"), ((0, "x"),))
        self.assertEqual(joined(one, (), "x"), ((0, "A"), (1, "x")))
        self.assertEqual(joined((), other, "x"), ((0, "B"), (2, "x")))
        self.assertEqual(joined(one, other, ""), ((0, "A"), (0, "B"), (3, "")))

    def test_joined_at_the_bound(self):
        self.assertEqual(joined(chain(50, "left"), chain(49, "left"), "A"),
                         chain(50, "left") + chain(49, "left") + ((3, "A"),))
        self.assertEqual(joined(chain(99, "left"), (), ""), chain(100, "left"))
        check_refused(self, "TooGreat", joined, chain(50, "left"), chain(50, "left"), "A")
        check_refused(self, "TooGreat", joined, chain(100, "left"), (), "")
        check_refused(self, "TooGreat", joined, (), chain(100, "left"), "")
        check_refused(self, "TooGreat", joined, chain(100, "left"), chain(100, "right"), "")

    def test_taken_apart(self):
        self.assertEqual(taken_apart(((0, "A"),)), ((), (), "A"))
        self.assertEqual(taken_apart(((0, "A"), (1, "B"))), (((0, "A"),), (), "B"))
        self.assertEqual(taken_apart(((0, "A"), (2, "B"))), ((), ((0, "A"),), "B"))
        self.assertEqual(taken_apart(WIDE), (((0, "A"), (1, "B")), ((0, "C"), (0, "D"), (3, "E")), "F"))

    def test_there_and_back(self):
        for tree in trees_over(4, ("", "A")) + [chain(100, "left", "A"), chain(100, "right")]:
            left, right, marks = taken_apart(tree)
            self.assertTrue(is_tree(left) and is_tree(right))
            self.assertEqual(joined(left, right, marks), tree)

    def test_the_empty_tree_is_refused(self):
        check_refused(self, "NoPlace", taken_apart, ())

    def test_kinds(self):
        self.assertTrue(is_plain(taken_apart(WIDE)))
        self.assertTrue(is_plain(joined(WIDE, WIDE, "")))


class BranchPut(unittest.TestCase):
    def test_in_the_place_of_nothing(self):
        self.assertEqual(branch_put(((0, "A"),), 0, "left", ((0, "B"),)), ((0, "B"), (1, "A")))
        self.assertEqual(branch_put(((0, "A"),), 0, "right", ((0, "B"),)), ((0, "B"), (2, "A")))
        self.assertEqual(branch_put(WIDE, 1, "right", FORK), WIDE[:1] + FORK + ((3, "B"),) + WIDE[2:])

    def test_in_the_place_of_a_branch(self):
        self.assertEqual(branch_put(WIDE, 4, "left", FORK), WIDE[:2] + FORK + WIDE[3:])
        self.assertEqual(branch_put(WIDE, 5, "right", ((0, "x"),)), WIDE[:2] + ((0, "x"), (3, "F")))
        self.assertEqual(branch_put(WIDE, 5, "left", ((0, "x"),)), ((0, "x"),) + WIDE[2:])

    def test_the_empty_tree_put(self):
        self.assertEqual(branch_put(WIDE, 5, "left", ()), WIDE[2:5] + ((2, "F"),))
        self.assertEqual(branch_put(WIDE, 5, "right", ()), WIDE[:2] + ((1, "F"),))
        self.assertEqual(branch_put(WIDE, 1, "left", ()), ((0, "B"),) + WIDE[2:])
        self.assertEqual(branch_put(WIDE, 1, "right", ()), WIDE)

    def test_all_else_stays(self):
        for tree in trees_over(4, ("",)):
            tree = tuple((branches, "ABCD"[number]) for number, (branches, _) in enumerate(tree))
            for place in range(4):
                for side in (0, 1):
                    changed = branch_put(tree, place, ("left", "right")[side], FORK)
                    self.assertEqual(nested_texts(changed), nested_texts(tree, place, side))

    def test_at_the_bound(self):
        changed = branch_put(WIDE, 5, "left", chain(96, "left"))
        self.assertEqual(len(changed), 100)
        self.assertTrue(is_tree(changed))
        check_refused(self, "TooGreat", branch_put, WIDE, 5, "left", chain(97, "left"))
        check_refused(self, "TooGreat", branch_put, chain(100, "left"), 0, "right", ((0, ""),))
        self.assertEqual(branch_put(chain(100, "left"), 0, "left", ()), chain(100, "left"))
        self.assertEqual(branch_put(chain(100, "left"), 99, "left", chain(99, "left", "A")),
                         chain(99, "left", "A") + ((1, ""),))

    def test_no_place_ahead_of_too_great(self):
        check_refused(self, "NoPlace", branch_put, (), 0, "left", ())
        for place in NO_PLACES + (100, 101):
            check_refused(self, "NoPlace", branch_put, chain(100, "left"), place, "left", chain(100, "left"))
        for place in NO_PLACES + (6, 7):
            check_refused(self, "NoPlace", branch_put, WIDE, place, "right", ())

    def test_kinds(self):
        self.assertTrue(is_plain(branch_put(WIDE, 4, "left", FORK)))


def nested_texts(tree, place=None, side=None):
    """The tree as nested triples of marks, FORK standing at a side of a place if one is told."""
    def told(node):
        if node is None:
            return None
        branches = [told(node[0]), told(node[1])]
        if node[3] == place:
            branches[side] = nested_texts(FORK)
        return (branches[0], branches[1], node[2])
    return told(nested(tree))


if __name__ == "__main__":
    unittest.main()
