"""Statements written as texts, and read."""

from trunksay.errors import NoStatement, TooGreat
from trunksay.names import is_letter
from trunksay.statements import BINDING, JOINING, TWO_LETTERED, parts_many

MOST_SIGNS = 300
MOST_PARTS = 30


def statement_text(statement):
    word = statement[0]
    if word == "one":
        return "one " + statement[1]
    if word in TWO_LETTERED:
        return " ".join([statement[1], word, statement[2]])
    if word == "not":
        return "not " + statement_text(statement[1])
    if word in JOINING:
        return " ".join(["(", statement_text(statement[1]), word, statement_text(statement[2]), ")"])
    return " ".join([word, statement[1], statement_text(statement[2])])


def is_said(item):
    return isinstance(item, tuple)


def is_lettered(item):
    return not is_said(item) and is_letter(item)


# What is told of an end is the statement that the last items write, or None where they write none.
def plain_end(items):
    if len(items) >= 2 and items[-2] == "one" and is_lettered(items[-1]):
        return ("one", items[-1])
    if len(items) >= 3 and items[-2] in TWO_LETTERED and is_lettered(items[-3]) and is_lettered(items[-1]):
        return (items[-2], items[-3], items[-1])
    return None


def front_end(items):
    if not is_said(items[-1]):
        return None
    if len(items) >= 2 and items[-2] == "not":
        return ("not", items[-1])
    if len(items) >= 3 and items[-3] in BINDING and is_lettered(items[-2]):
        return (items[-3], items[-2], items[-1])
    return None


def bracket_end(items):
    if len(items) < 5 or items[-1] != ")" or items[-5] != "(" or items[-3] not in JOINING:
        return None
    if not is_said(items[-4]) or not is_said(items[-2]):
        return None
    return (items[-3], items[-4], items[-2])


def end_of(items):
    for ended in (plain_end(items), front_end(items), bracket_end(items)):
        if ended is not None:
            return ended
    return None


def words_many(statement):
    # How many items write a statement whose inner statements are one item each.
    return len(statement) + 2 if statement[0] in JOINING else len(statement)


def read_words(words):
    # No statement's text begins another's, so each end that writes a statement can be folded into it at once.
    # The items are words and folded statements; no recursion, as brackets may be 150 deep.
    items = []
    for word in words:
        items.append(word)
        ended = end_of(items)
        while ended is not None:
            items = items[:len(items) - words_many(ended)] + [ended]
            ended = end_of(items)
    if len(items) != 1 or not is_said(items[0]):
        raise NoStatement("no statement is written so")
    return items[0]


def read_statement(text):
    if len(text) > MOST_SIGNS:
        raise TooGreat("the text has more than 300 signs")
    statement = read_words(text.split(" "))
    if parts_many(statement) > MOST_PARTS:
        raise TooGreat("the statement has more than 30 parts")
    return statement
