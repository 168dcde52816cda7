"""Which places bear a letter, and a tree dressed in one."""

from trunksay.names import in_order
from trunksay.trees import check_place


def borne_by(tree, letter):
    return tuple([number for number, place in enumerate(tree) if letter in place[1]])


def dressed_in(tree, letter, places):
    chosen = {}
    for number in places:
        check_place(tree, number)
        chosen[number] = True
    dressed = []
    for number, place in enumerate(tree):
        marks = place[1].replace(letter, "")
        if number in chosen:
            marks = in_order(marks + letter)
        dressed.append((place[0], marks))
    return tuple(dressed)
