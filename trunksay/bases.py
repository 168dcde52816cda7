"""The base of a plain statement: the machine that the document writes out for each of the five words."""

from trunksay.machines import table_by
from trunksay.names import marks_of, two_to
from trunksay.statements import names_of


def in_room(left, right, first, second):
    return 1 if left == 1 or right == 1 or (first and not second) else 0


def one_room(left, right, first):
    many = left + right + 1 if first else left + right
    return min(many, 2)


def side_room(near, far, first, second):
    # Near is the room at the side that the word names, so that left and right are told by one rule.
    if near == 2 or far != 0 or (near == 1 and not second):
        return 2
    return 1 if first else 0


def below_room(left, right, first, second):
    return 1 if first or (not second and (left == 1 or right == 1)) else 0


def base_room(statement, marks, left, right):
    word = statement[0]
    first = statement[1] in marks
    # Of "one" the last letter is the first one; it is not looked at there.
    second = statement[-1] in marks
    if word == "in":
        return in_room(left, right, first, second)
    if word == "one":
        return one_room(left, right, first)
    if word == "left":
        return side_room(left, right, first, second)
    if word == "right":
        return side_room(right, left, first, second)
    return below_room(left, right, first, second)


def base_of(statement):
    names = names_of(statement)
    rooms = 2 if statement[0] in ("in", "below") else 3
    good_room = 1 if statement[0] == "one" else 0
    good = tuple([room == good_room for room in range(rooms)])

    def lead(letter, left, right):
        return base_room(statement, marks_of(names, letter), left, right)

    return (names, good, table_by(two_to(len(names)), rooms, lead))
