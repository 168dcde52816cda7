"""Two machines compared: rows where both let by the same trees, and the first tree that just one of both lets by."""

from trunksay.making import coupled
from trunksay.verdicts import first_let


def alike_rows(one, other):
    couple = coupled("apart", one, other)
    if any(couple[1][1]):
        return None
    return tuple(sorted(couple[0]))


def apart_tree(one, other):
    return first_let(coupled("apart", one, other)[1])
