"""The rows of first trees, and the first tree of a room."""

from trunksay.making import pairs_with
from trunksay.names import marks_of
from trunksay.trees import check_size, joined


def put_ways(machine, rows, told, best):
    # A way is (size, left row, right row, letter). The rows stand in the order of their first trees, so two ways
    # compare as their trees do. Branches of a first tree are first trees, so no other ways need be looked at.
    for left, right in pairs_with(len(rows) - 1):
        size = rows[left][1] + rows[right][1] + 1
        for letter, leads in enumerate(machine[2]):
            room = leads[rows[left][0]][rows[right][0]]
            way = (size, left, right, letter)
            if room not in told and (room not in best or way < best[room]):
                best[room] = way


def firsts_of(machine):
    rows = [(0, 0, ())]
    told = {0: True}
    # For each room that is not yet told the best way to it from the rooms that are.
    best = {}
    put_ways(machine, rows, told, best)
    while len(best) > 0:
        # A tree is behind its branches, so nothing that is found later is ahead of the best way of all.
        room = min(best, key=lambda each: best[each])
        way = best.pop(room)
        rows.append((room, way[0], (rows[way[1]][0], rows[way[2]][0], way[3])))
        told[room] = True
        put_ways(machine, rows, told, best)
    return tuple(rows)


def built(machine, rows, room):
    # The rows up to that of the room; none of these trees is greater than the room's own.
    trees = {0: ()}
    for row in rows:
        if len(row[2]) > 0:
            marks = marks_of(machine[0], row[2][2])
            trees[row[0]] = joined(trees[row[2][0]], trees[row[2][1]], marks)
        if row[0] == room:
            break
    return trees[room]


def told_tree(machine, rows, row):
    check_size(row[1])
    return built(machine, rows, row[0])


def first_tree(machine, room):
    rows = firsts_of(machine)
    for row in rows:
        if row[0] == room:
            return told_tree(machine, rows, row)
    return None
