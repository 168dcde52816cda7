"""Which rooms of a machine are apart, in how many steps, and why."""

from trunksay.firsts import firsts_of
from trunksay.making import good_blocks, split_blocks, views_of


def pairs_of(rooms):
    pairs = []
    for number, one in enumerate(rooms):
        pairs.extend([(one, other) for other in rooms[number + 1:]])
    return pairs


def why_apart(one, other, rooms):
    # The two views are by letter, side and third room, so the first unlike items tell the least of these.
    number = 0
    while one[number] == other[number]:
        number = number + 1
    many = len(rooms)
    return (number // (many * 2), number // many % 2, rooms[number % many])


def parted_by(blocks, pairs):
    return [(a, b) for a, b in pairs if blocks[a] != blocks[b]]


def together_in(blocks, pairs):
    return [(a, b) for a, b in pairs if blocks[a] == blocks[b]]


def unlike_rows(machine):
    rooms = sorted([row[0] for row in firsts_of(machine)])
    pairs = pairs_of(rooms)
    # Two rooms are in one block just where they are not apart in so many steps or fewer.
    steps = 0
    blocks = good_blocks(machine, rooms)
    parted = parted_by(blocks, pairs)
    rows = [(a, b, 0, ()) for a, b in parted]
    while len(parted) > 0:
        pairs = together_in(blocks, pairs)
        views = views_of(machine, rooms, blocks)
        steps = steps + 1
        blocks = split_blocks(rooms, blocks, views)
        parted = parted_by(blocks, pairs)
        rows.extend([(a, b, steps, why_apart(views[a], views[b], rooms)) for a, b in parted])
    return tuple(rows)
