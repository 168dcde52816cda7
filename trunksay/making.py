"""What the making of machines has in common: rooms found side by side, rooms parted, what a word says of truths."""

from trunksay.machines import check_entries, table_by, table_over
from trunksay.names import in_order, two_to


def pairs_with(newest):
    # All two of the numbers from 0 to the newest one, one at the left and one at the right, with the newest among them.
    return [(newest, other) for other in range(newest + 1)] + [(other, newest) for other in range(newest)]


def says(word, truths):
    # Of the parts' truths, whether the made machine's room is to be good.
    if word == "same":
        return truths[0]
    if word == "not":
        return not truths[0]
    if word == "and":
        return truths[0] and truths[1]
    if word == "or":
        return truths[0] or truths[1]
    # The word "apart", for which no machine is told, but two are compared by it.
    return truths[0] != truths[1]


def side_by_side(machines, names):
    # How rows with a room of each machine lead to such a row; the names have all of the machines' own.
    tables = [table_over(machine, names) for machine in machines]

    def lead(letter, left, right):
        return tuple([table[letter][one][other] for table, one, other in zip(tables, left, right)])

    return lead


def goods_of(machines, row):
    return [machine[1][room] for machine, room in zip(machines, row)]


def grown(start, lead, names):
    # All that trees come to where the empty tree comes to the start, and the table of a machine with a room for each
    # of these. Refused as soon as they are too many, as there may be far more of them than can be gone through.
    found = [start]
    numbers = {start: 0}
    leads = {}
    letters = two_to(len(names))
    newest = 0
    while newest < len(found):
        check_entries(len(found), names)
        for left, right in pairs_with(newest):
            for letter in range(letters):
                led = lead(letter, found[left], found[right])
                if led not in numbers:
                    numbers[led] = len(found)
                    found.append(led)
                leads[(letter, left, right)] = numbers[led]
        newest = newest + 1
    table = table_by(letters, len(found), lambda letter, left, right: leads[(letter, left, right)])
    return (found, table)


def coupled(word, one, other):
    # The rows of rooms to which trees come in both machines, and a machine with a room for each of these rows, in
    # their order, over the names of both.
    names = in_order(one[0] + other[0])
    # Looked at ahead of the tables, which double with each name.
    check_entries(1, names)
    parts = (one, other)
    whole = grown((0, 0), side_by_side(parts, names), names)
    good = tuple([says(word, goods_of(parts, row)) for row in whole[0]])
    return (whole[0], (names, good, whole[1]))


def numbered(rooms, keys):
    # Rooms with like keys get the same number; the numbers are given in the order of the rooms.
    numbers = {}
    blocks = {}
    for room in rooms:
        numbers.setdefault(keys[room], len(numbers))
        blocks[room] = numbers[keys[room]]
    return blocks


def good_blocks(machine, rooms):
    keys = {}
    for room in rooms:
        keys[room] = machine[1][room]
    return numbered(rooms, keys)


def views_of(machine, rooms, blocks):
    # For each room the blocks to which it leads: by the letter, then the side at which it stands, then the third room.
    views = {}
    for room in rooms:
        view = []
        for leads in machine[2]:
            view.extend([blocks[leads[room][third]] for third in rooms])
            view.extend([blocks[leads[third][room]] for third in rooms])
        views[room] = tuple(view)
    return views


def split_blocks(rooms, blocks, views):
    keys = {}
    for room in rooms:
        keys[room] = (blocks[room], views[room])
    return numbered(rooms, keys)
