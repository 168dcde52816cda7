"""Not, and, or: the machine made of one or of two, and its paper."""

from trunksay.least import least_of
from trunksay.making import coupled, says


def flipped(machine):
    good = tuple([says("not", [truth]) for truth in machine[1]])
    return least_of((machine[0], good, machine[2]))


def made_of(word, one, other):
    couple = coupled(word, one, other)
    least = least_of(couple[1])
    # Some tree comes to each of these rows, so the paper of the least machine has each, in their order.
    rows = [row + (tie[1],) for row, tie in zip(couple[0], least[1])]
    return (least[0], tuple(sorted(rows)))


def both(one, other):
    return made_of("and", one, other)


def either(one, other):
    return made_of("or", one, other)
