"""Plain going: whether a statement is true of a tree, through all places and all sets of places."""

from trunksay.errors import TooGreat
from trunksay.names import is_small, two_to
from trunksay.statements import JOINING, is_plain
from trunksay.trees import up_from, ups_of
from trunksay.wearing import borne_by, dressed_in

MOST_WAYS = 4096


def choices_many(letter, size):
    return max(size, 1) if is_small(letter) else two_to(size)


def ways_of(statement, size):
    word = statement[0]
    if is_plain(statement):
        return 1
    if word == "not":
        return ways_of(statement[1], size)
    if word in JOINING:
        return ways_of(statement[1], size) + ways_of(statement[2], size)
    return ways_of(statement[2], size) * choices_many(statement[1], size)


def choices_of(letter, size):
    # The sets of places that a bound letter stands for, one after the other.
    if is_small(letter):
        return [(place,) for place in range(size)]
    choices = [()]
    for place in range(size):
        choices = choices + [chosen + (place,) for chosen in choices]
    return choices


def bears(tree, number, letter):
    return number is not None and letter in tree[number][1]


def all_below(tree, ups, low, high):
    below = [False for place in tree]
    # From the top down, so that what is above a place is known ahead of it.
    for number in range(len(tree) - 1, -1, -1):
        up = up_from(ups, number)
        below[number] = up is not None and (below[up] or bears(tree, up, high))
    return all([below[number] for number in borne_by(tree, low)])


def plain_true(statement, tree, ups):
    word = statement[0]
    borne = borne_by(tree, statement[1])
    if word == "one":
        return len(borne) == 1
    if word == "in":
        return all([bears(tree, number, statement[2]) for number in borne])
    if word == "below":
        return all_below(tree, ups, statement[1], statement[2])
    side = ups[0] if word == "left" else ups[1]
    return all([bears(tree, side[number], statement[2]) for number in borne])


def bound_true(statement, tree, ups):
    # One choice that comes out so settles it: a true one for some, a false one for all.
    settling = statement[0] == "some"
    for places in choices_of(statement[1], len(tree)):
        if goes_true(statement[2], dressed_in(tree, statement[1], places), ups) == settling:
            return settling
    return not settling


def goes_true(statement, tree, ups):
    word = statement[0]
    if is_plain(statement):
        return plain_true(statement, tree, ups)
    if word == "not":
        return not goes_true(statement[1], tree, ups)
    if word == "and":
        return goes_true(statement[1], tree, ups) and goes_true(statement[2], tree, ups)
    if word == "or":
        return goes_true(statement[1], tree, ups) or goes_true(statement[2], tree, ups)
    return bound_true(statement, tree, ups)


def holds(statement, tree):
    if ways_of(statement, len(tree)) > MOST_WAYS:
        raise TooGreat("there are more than 4,096 ways")
    # Dressing changes no branches, so this is reckoned once for a tree.
    return goes_true(statement, tree, ups_of(tree))
