"""The lines that a desk is asked by: their forms, and a line read by its form."""

from trunksay.errors import NoLine
from trunksay.names import is_letter, is_row, is_small

MOST_NAME = 12
MOST_FIGURES = 150
FIGURES = "0123456789"

# What stands behind the first word: a new name, one that is known, one of a statement or of a tree, figures, a letter,
# letters, a side, or all the rest of the line.
FORMS = {
    "say": ("new", "rest"), "tree": ("new", "rest"),
    "drop": ("known",), "show": ("known",), "names": (),
    "true": ("say", "wood"), "always": ("say",), "some": ("say",), "alike": ("say", "say"),
    "count": ("say", "figures"), "nth": ("say", "figures", "figures"),
    "fills": ("say", "wood", "letters"), "fill": ("say", "wood", "letters"),
    "hold": ("say", "wood"), "put": ("figures", "letter"), "take": ("figures", "letter"),
    "branch": ("figures", "side", "rest"), "back": (), "again": (), "keep": ("new",),
}


def is_name(word):
    return 1 <= len(word) <= MOST_NAME and all([is_small(sign) for sign in word])


def is_figures(word):
    if not 1 <= len(word) <= MOST_FIGURES or not all([sign in FIGURES for sign in word]):
        return False
    return word == "0" or word[0] != "0"


def fits(kind, word):
    if kind == "rest":
        return True
    if kind == "figures":
        return is_figures(word)
    if kind == "letter":
        return is_letter(word)
    if kind == "letters":
        return len(word) > 0 and is_row(word)
    if kind == "side":
        return word in ("left", "right")
    return is_name(word)


def words_by(form, line):
    words = line.split(" ")
    if "rest" in form and len(words) > len(form):
        # The rest stands last, and its own blanks are its affair.
        return words[:len(form)] + [" ".join(words[len(form):])]
    return words


def kinds_of(word):
    return FORMS[word]


def read_line(line):
    # The first word, and a list of what stands behind it, figures as whole numbers.
    word = line.split(" ")[0]
    if word not in FORMS:
        raise NoLine("no line begins so")
    form = FORMS[word]
    words = words_by(form, line)[1:]
    if len(words) != len(form) or not all([fits(kind, each) for kind, each in zip(form, words)]):
        raise NoLine("the line has none of the forms")
    return (word, [int(each) if kind == "figures" else each for kind, each in zip(form, words)])
