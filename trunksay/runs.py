"""The rooms of a tree, and whether it is let by."""

from trunksay.names import letter_of
from trunksay.trees import links_of


def rooms_of(machine, tree):
    rooms = []
    for place, pair in zip(tree, links_of(tree)):
        left = 0 if pair[0] is None else rooms[pair[0]]
        right = 0 if pair[1] is None else rooms[pair[1]]
        rooms.append(machine[2][letter_of(machine[0], place[1])][left][right])
    return tuple(rooms)


def room_of(machine, tree):
    # The empty tree has no place, but comes to room 0.
    return rooms_of(machine, tree)[-1] if len(tree) > 0 else 0


def lets_by(machine, tree):
    return machine[1][room_of(machine, tree)]
