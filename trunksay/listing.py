"""The trees of a size that are let by: the one of a number, the rank of one, all of them."""

from trunksay.counts import all_counts, come_to, let_many
from trunksay.errors import NoNumber, TooGreat
from trunksay.names import letter_of, marks_of
from trunksay.order import key_of
from trunksay.runs import room_of
from trunksay.trees import taken_apart, with_top

MOST_LISTED = 200


def good_weights(machine):
    # The weight of a room is how many trees of the list have a part at this spot that comes to the room, all that
    # stands ahead of the part being settled. For a whole tree that is one where the room is good.
    return [1 if good else 0 for good in machine[1]]


def weighed(many, weights):
    return sum([each * weight for each, weight in zip(many, weights)])


def pair_weights(machine, weights):
    # For each room of a left branch and each of a right one: their weight, through all marks of the place above.
    rooms = len(machine[1])
    pairs = []
    for left in range(rooms):
        pairs.append([sum([weights[leads[left][right]] for leads in machine[2]]) for right in range(rooms)])
    return pairs


def left_weights(pairs, right_counts):
    return [weighed(right_counts, row) for row in pairs]


def left_turn(counts, size, pairs, number):
    # How many places the left branch has, its weights, and how much of the number is left over.
    left_size = 0
    weights = left_weights(pairs, counts[size - 1])
    many = weighed(counts[0], weights)
    while number >= many:
        number = number - many
        left_size = left_size + 1
        weights = left_weights(pairs, counts[size - 1 - left_size])
        many = weighed(counts[left_size], weights)
    return (left_size, weights, number)


def settled(machine, counts, size, weights, number):
    # The tree, its room, and how much of the number is left over for what stands behind it.
    if size == 0:
        return ((), 0, number)
    pairs = pair_weights(machine, weights)
    turn = left_turn(counts, size, pairs, number)
    left = settled(machine, counts, turn[0], turn[1], turn[2])
    right = settled(machine, counts, size - 1 - turn[0], pairs[left[1]], left[2])
    rest = right[2]
    for letter, leads in enumerate(machine[2]):
        room = leads[left[1]][right[1]]
        if rest < weights[room]:
            break
        rest = rest - weights[room]
    return (with_top(left[0], right[0], marks_of(machine[0], letter)), room, rest)


def tree_at(machine, size, number):
    counts = all_counts(machine, size)
    if number < 0 or number >= let_many(machine, counts[size]):
        raise NoNumber("no tree has that number")
    return settled(machine, counts, size, good_weights(machine), number)[0]


def weight_ahead(machine, counts, tree, weights):
    if len(tree) == 0:
        return 0
    apart = taken_apart(tree)
    left = room_of(machine, apart[0])
    right = room_of(machine, apart[1])
    pairs = pair_weights(machine, weights)
    many = 0
    for size in range(len(apart[0])):
        many = many + weighed(counts[size], left_weights(pairs, counts[len(tree) - 1 - size]))
    many = many + weight_ahead(machine, counts, apart[0], left_weights(pairs, counts[len(apart[1])]))
    many = many + weight_ahead(machine, counts, apart[1], pairs[left])
    # Letters that are none of the machine's names are not looked at, which takes them off.
    for letter in range(letter_of(machine[0], apart[2])):
        many = many + weights[machine[2][letter][left][right]]
    return many


def rank_of(machine, tree):
    return weight_ahead(machine, all_counts(machine, len(tree)), tree, good_weights(machine))


def put_needed(machine, counts, needed, size, left_size):
    right_size = size - 1 - left_size
    for left in come_to(counts[left_size]):
        for right in come_to(counts[right_size]):
            if any([leads[left][right] in needed[size] for leads in machine[2]]):
                needed[left_size][left] = True
                needed[right_size][right] = True


def needed_rooms(machine, counts):
    # For each size the rooms of the parts of that size of the trees to be listed.
    size = len(counts) - 1
    needed = [{} for each in counts]
    for room in come_to(counts[size]):
        if machine[1][room]:
            needed[size][room] = True
    for whole in range(size, 0, -1):
        for left_size in range(whole):
            put_needed(machine, counts, needed, whole, left_size)
    return needed


def joined_ways(names, lefts, rights, letter):
    trees = []
    for left in lefts:
        trees.extend([with_top(left, right, marks_of(names, letter)) for right in rights])
    return trees


def parts_of_size(machine, needed, parts):
    # From the parts of all lesser sizes: for each needed room all trees of the next size that come to it.
    size = len(parts)
    found = {}
    for room in needed[size]:
        found[room] = []
    for left_size in range(size):
        for left, lefts in parts[left_size].items():
            for right, rights in parts[size - 1 - left_size].items():
                for letter, leads in enumerate(machine[2]):
                    if leads[left][right] in found:
                        found[leads[left][right]].extend(joined_ways(machine[0], lefts, rights, letter))
    return found


def listed(machine, size):
    counts = all_counts(machine, size)
    if let_many(machine, counts[size]) > MOST_LISTED:
        raise TooGreat("there are more than 200 such trees")
    # Parts that no listed tree has are left out, so there are few of them, however many trees there are.
    needed = needed_rooms(machine, counts)
    parts = [{0: [()]} if 0 in needed[0] else {}]
    while len(parts) <= size:
        parts.append(parts_of_size(machine, needed, parts))
    trees = []
    for found in parts[size].values():
        trees.extend(found)
    return tuple(sorted(trees, key=key_of))
