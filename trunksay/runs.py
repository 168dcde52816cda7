"""The rooms of a tree, and whether it is let by."""

from trunksay.names import letter_of
from trunksay.trees import links_of


def room_below(rooms, number):
    # None where there is no branch: the empty tree comes to room 0.
    return 0 if number is None else rooms[number]


def room_at(machine, marks, pair, rooms):
    # The room of a place, told by the rooms of the tops of its branches.
    leads = machine[2][letter_of(machine[0], marks)]
    return leads[room_below(rooms, pair[0])][room_below(rooms, pair[1])]


def rooms_of(machine, tree):
    rooms = []
    for place, pair in zip(tree, links_of(tree)):
        rooms.append(room_at(machine, place[1], pair, rooms))
    return tuple(rooms)


def room_of(machine, tree):
    # The empty tree has no place, but comes to room 0.
    return rooms_of(machine, tree)[-1] if len(tree) > 0 else 0


def lets_by(machine, tree):
    return machine[1][room_of(machine, tree)]
