"""Not, and, or: the machine made of one or of two, and its paper."""

from trunksay.least import least_of
from trunksay.machines import check_entries
from trunksay.making import goods_of, grown, says, side_by_side
from trunksay.names import in_order


def flipped(machine):
    good = tuple([says("not", [truth]) for truth in machine[1]])
    return least_of((machine[0], good, machine[2]))


def made_of(word, one, other):
    names = in_order(one[0] + other[0])
    # Looked at ahead of the tables, which double with each name.
    check_entries(1, names)
    parts = (one, other)
    whole = grown((0, 0), side_by_side(parts, names), names)
    good = tuple([says(word, goods_of(parts, row)) for row in whole[0]])
    least = least_of((names, good, whole[1]))
    # Some tree comes to each of these rows, so the paper of the least machine has each, in their order.
    rows = [row + (tie[1],) for row, tie in zip(whole[0], least[1])]
    return (least[0], tuple(sorted(rows)))


def both(one, other):
    return made_of("and", one, other)


def either(one, other):
    return made_of("or", one, other)
