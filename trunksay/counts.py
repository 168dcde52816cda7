"""How many trees of a size come to each room, and how many are let by."""

from trunksay.errors import TooGreat

MOST_COUNTED = 24


def come_to(many):
    # The rooms whose number of trees is not 0.
    return [room for room, each in enumerate(many) if each > 0]


def check_counted(size):
    if size > MOST_COUNTED:
        raise TooGreat("trees of more than 24 places are not counted")


def empty_counts(machine):
    # The one tree without a place comes to room 0.
    return tuple([1 if room == 0 else 0 for room in range(len(machine[1]))])


def next_counts(machine, counts):
    # From those of all lesser sizes: a left branch of each size goes with a right one of what is left over.
    many = [0 for room in machine[1]]
    others = counts[::-1]
    for left in range(len(many)):
        for right in range(len(many)):
            pairs = sum([one[left] * other[right] for one, other in zip(counts, others)])
            if pairs > 0:
                for leads in machine[2]:
                    many[leads[left][right]] = many[leads[left][right]] + pairs
    return tuple(many)


def all_counts(machine, size):
    # A row for each size from 0 to the one asked.
    check_counted(size)
    counts = [empty_counts(machine)]
    for each in range(size):
        counts.append(next_counts(machine, counts))
    return counts


def counts_of(machine, size):
    return all_counts(machine, size)[size]


def let_many(machine, many):
    return sum([each for each, good in zip(many, machine[1]) if good])


def counted(machine, size):
    return let_many(machine, counts_of(machine, size))
