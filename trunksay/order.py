"""The order of trees."""

from trunksay.names import ALL_LETTERS, letter_of
from trunksay.trees import has_left, has_right


def key_of(tree):
    # A flat list: the size, the left branch's key, the right one's, the top's marks over all letters.
    # Two keys are first unlike where the order of trees looks first, so comparing the lists compares the trees.
    empty = [0]
    keys = []
    for place in tree:
        right = keys.pop() if has_right(place) else empty
        left = keys.pop() if has_left(place) else empty
        keys.append([left[0] + right[0] + 1] + left + right + [letter_of(ALL_LETTERS, place[1])])
    return keys[0] if len(keys) > 0 else empty


def comes_ahead(one, other):
    return key_of(one) < key_of(other)
