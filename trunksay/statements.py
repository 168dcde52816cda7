"""Statements: their forms, their parts, their names."""

from trunksay.names import in_order

TWO_LETTERED = ("in", "left", "right", "below")
JOINING = ("and", "or")
BINDING = ("some", "all")


def is_plain(statement):
    return statement[0] == "one" or statement[0] in TWO_LETTERED


def inner_of(statement):
    # The statements that stand straight within a statement.
    if is_plain(statement):
        return ()
    if statement[0] in BINDING:
        return statement[2:]
    return statement[1:]


def parts_many(statement):
    many = 0
    # A list of what is still to be looked at, as a statement that is read may be deep before it is refused.
    waiting = [statement]
    while len(waiting) > 0:
        many = many + 1
        waiting.extend(inner_of(waiting.pop()))
    return many


def names_of(statement):
    if is_plain(statement):
        return in_order("".join(statement[1:]))
    if statement[0] in BINDING:
        return names_of(statement[2]).replace(statement[1], "")
    names = ""
    for inner in inner_of(statement):
        names = names + names_of(inner)
    return in_order(names)
