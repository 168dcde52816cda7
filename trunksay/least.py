"""The least machine of a machine, and its paper."""

from trunksay.firsts import firsts_of
from trunksay.machines import table_by
from trunksay.making import good_blocks, split_blocks, views_of


def last_blocks(machine, rooms):
    # The numbers of the blocks are given in the order of the rooms, so blocks that are not split further are equal.
    blocks = good_blocks(machine, rooms)
    finer = split_blocks(rooms, blocks, views_of(machine, rooms, blocks))
    while finer != blocks:
        blocks = finer
        finer = split_blocks(rooms, blocks, views_of(machine, rooms, blocks))
    return blocks


def heads_of(rooms, blocks):
    # For each block the first one of its rooms; the blocks are numbered in the order of these.
    heads = []
    for room in rooms:
        if blocks[room] == len(heads):
            heads.append(room)
    return heads


def least_of(machine):
    # The first tree of a block is that of its first room, so in this order the blocks are numbered as is asked.
    rooms = [row[0] for row in firsts_of(machine)]
    blocks = last_blocks(machine, rooms)
    heads = heads_of(rooms, blocks)
    good = tuple([machine[1][room] for room in heads])

    def lead(letter, left, right):
        return blocks[machine[2][letter][heads[left]][heads[right]]]

    paper = tuple([(room, blocks[room]) for room in sorted(rooms)])
    return ((machine[0], good, table_by(len(machine[2]), len(heads), lead)), paper)
