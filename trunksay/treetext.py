"""Trees written as texts, and read."""

from trunksay.errors import NoTree, TooGreat
from trunksay.trees import MOST_PLACES, is_tree

EMPTY = "-"
FIGURES = ("0", "1", "2", "3")


def tree_text(tree):
    if len(tree) == 0:
        return EMPTY
    return " ".join([str(place[0]) + place[1] for place in tree])


def read_place(word):
    # The marks are not looked at here: is_tree does that.
    if word[:1] not in FIGURES:
        raise NoTree("that word is no place")
    return (int(word[0]), word[1:])


def read_tree(text):
    if text.count(" ") >= MOST_PLACES:
        raise TooGreat("a tree has at most 100 places")
    if text == EMPTY:
        return ()
    tree = tuple([read_place(word) for word in text.split(" ")])
    if not is_tree(tree):
        raise NoTree("these places are no tree")
    return tree
