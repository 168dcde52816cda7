"""Machines: their entries, and a machine widened to more names."""

from trunksay.errors import TooGreat
from trunksay.names import two_to

MOST_ENTRIES = 10000


def entries_many(rooms, names):
    return rooms * rooms * two_to(len(names))


def entries_of(machine):
    return entries_many(len(machine[1]), machine[0])


def check_entries(rooms, names):
    if entries_many(rooms, names) > MOST_ENTRIES:
        raise TooGreat("that makes more than 10,000 entries")


def table_by(letters, rooms, lead):
    table = []
    for letter in range(letters):
        leads = []
        for left in range(rooms):
            leads.append(tuple([lead(letter, left, right) for right in range(rooms)]))
        table.append(tuple(leads))
    return tuple(table)


def own_numbers(names, own):
    # For each number of marks over the names the number of these marks over its own ones, which are all names.
    numbers = [0]
    for name in names:
        further = []
        for number in numbers:
            if name in own:
                further.extend([number * 2, number * 2 + 1])
            else:
                further.extend([number, number])
        numbers = further
    return numbers


def table_over(machine, names):
    return tuple([machine[2][number] for number in own_numbers(names, machine[0])])


def widened(machine, names):
    check_entries(len(machine[1]), names)
    return (names, machine[1], table_over(machine, names))
