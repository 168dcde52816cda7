"""Papers of tied rooms, and the looker that tells whether they show their word."""

from trunksay.errors import TooGreat
from trunksay.machines import entries_many
from trunksay.making import goods_of, says, side_by_side
from trunksay.names import in_order, two_to

MOST_NAMES = 13
MOST_LOOKS = 40000


def check_looks(rows, names):
    if len(names) > MOST_NAMES:
        raise TooGreat("there are more than 13 names in question")
    if entries_many(len(rows), names) > MOST_LOOKS:
        raise TooGreat("there are more than 40,000 looks at these rows")


def is_room(machine, number):
    return 0 <= number < len(machine[1])


def all_rooms(machines, row):
    return all([is_room(machine, number) for machine, number in zip(machines, row)])


def closed(rows, lead, letters):
    # The rows are a dict. Whether each two of them lead to one of them, with all marks.
    for left in rows:
        for right in rows:
            for letter in range(letters):
                if lead(letter, left, right) not in rows:
                    return False
    return True


def says_so(word, parts, made, row):
    return made[1][row[-1]] == says(word, goods_of(parts, row))


def shown(word, parts, made, rows):
    machines = parts + (made,)
    names = in_order("".join([machine[0] for machine in machines]))
    check_looks(rows, names)
    known = {}
    for row in rows:
        known[row] = True
    if not all([all_rooms(machines, row) for row in known]):
        return False
    if (0,) * len(machines) not in known:
        return False
    if not all([says_so(word, parts, made, row) for row in known]):
        return False
    return closed(known, side_by_side(machines, names), two_to(len(names)))
