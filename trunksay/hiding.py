"""A letter hidden in a machine: the made machine, its paper, and the looker of it."""

from trunksay.least import least_of
from trunksay.machines import own_numbers, table_over
from trunksay.making import grown
from trunksay.names import in_order, two_to
from trunksay.papers import check_looks, closed, is_room


def leads_over(machine, letter, names):
    # For each number of marks over the names the machine's leads with these marks, without the letter and with it;
    # the names have all of the machine's own but the letter.
    own = machine[0].replace(letter, "")
    leads = [[] for each in range(two_to(len(own)))]
    for number, bare in enumerate(own_numbers(machine[0], own)):
        leads[bare].append(machine[2][number])
    return [leads[number] for number in own_numbers(names, own)]


def spread_of(leads, left):
    # For each room at the right the rooms to which a left set leads with it; a room is a bit here.
    spread = []
    for right in range(len(leads[0])):
        bits = 0
        for each in leads:
            for room in left:
                bits = bits | 1 << each[room][right]
        spread.append(bits)
    return spread


def rooms_in(bits):
    return tuple([room for room in range(bits.bit_length()) if bits >> room & 1 == 1])


class SetLeads:
    def __init__(self, machine, letter, names):
        self.leads = leads_over(machine, letter, names)
        # Kept, as each left set is asked with all the others at its right.
        self.spreads = {}

    def led(self, number, left, right):
        if (number, left) not in self.spreads:
            self.spreads[(number, left)] = spread_of(self.leads[number], left)
        spread = self.spreads[(number, left)]
        bits = 0
        for room in right:
            bits = bits | spread[room]
        return rooms_in(bits)


def some_good(machine, rooms):
    return any([machine[1][room] for room in rooms])


def hidden(machine, letter):
    names = machine[0].replace(letter, "")
    sets = SetLeads(machine, letter, names)
    whole = grown((0,), lambda number, left, right: sets.led(number, left, right), names)
    good = tuple([some_good(machine, rooms) for rooms in whole[0]])
    least = least_of((names, good, whole[1]))
    # Some tree has each of these sets, so the paper of the least machine has each, in their order.
    rows = [(rooms, tie[1]) for rooms, tie in zip(whole[0], least[1])]
    return (least[0], tuple(sorted(rows)))


def is_rising(numbers):
    return all([one < other for one, other in zip(numbers, numbers[1:])])


def is_tie(machine, made, row):
    rooms = row[0]
    if len(rooms) == 0 or not is_rising(rooms):
        return False
    return all([is_room(machine, room) for room in rooms]) and is_room(made, row[1])


def tied_well(machine, made, row):
    return is_tie(machine, made, row) and made[1][row[1]] == some_good(machine, row[0])


def shown_hidden(machine, letter, made, rows):
    names = in_order(machine[0] + made[0]).replace(letter, "")
    check_looks(rows, names)
    if letter in made[0] or ((0,), 0) not in rows:
        return False
    if not all([tied_well(machine, made, row) for row in rows]):
        return False
    known = {}
    for row in rows:
        known[row] = True
    sets = SetLeads(machine, letter, names)
    table = table_over(made, names)

    def lead(number, left, right):
        return (sets.led(number, left[0], right[0]), table[number][left[1]][right[1]])

    return closed(known, lead, two_to(len(names)))
