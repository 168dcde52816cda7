"""The first tree that is let by, and whether a machine lets all trees by, or any."""

from trunksay.firsts import firsts_of, told_tree


def first_of_kind(machine, rows, good):
    # The first tree whose room is good, or is not; the rows stand in the order of their first trees.
    for row in rows:
        if machine[1][row[0]] == good:
            return told_tree(machine, rows, row)
    return None


def first_let(machine):
    return first_of_kind(machine, firsts_of(machine), True)


def always_lets(machine):
    rows = firsts_of(machine)
    tree = first_of_kind(machine, rows, False)
    return ("always", rows) if tree is None else ("not", tree)


def ever_lets(machine):
    rows = firsts_of(machine)
    tree = first_of_kind(machine, rows, True)
    return ("never", rows) if tree is None else ("some", tree)
