"""A desk that is asked by lines and answers with texts."""

from trunksay.alike import apart_tree
from trunksay.counts import counted
from trunksay.errors import NoName, NothingHeld
from trunksay.fillings import filled, fillings
from trunksay.kept import Kept
from trunksay.lines import kinds_of, read_line
from trunksay.listing import tree_at
from trunksay.record import machine_of
from trunksay.runs import lets_by
from trunksay.saying import read_statement, statement_text
from trunksay.treetext import read_tree, tree_text
from trunksay.verdicts import always_lets, ever_lets

IN_HAND = ("put", "take", "branch", "back", "again")


def yes_or_no(truth):
    return "yes" if truth else "no"


def always_text(machine):
    verdict = always_lets(machine)
    return "yes" if verdict[0] == "always" else "no " + tree_text(verdict[1])


def some_text(machine):
    verdict = ever_lets(machine)
    return "no" if verdict[0] == "never" else "yes " + tree_text(verdict[1])


def alike_text(one, other):
    tree = apart_tree(one, other)
    return "yes" if tree is None else "no " + tree_text(tree)


def fill_text(machine, tree, letters):
    found = filled(machine, tree, letters)
    return "none" if found is None else tree_text(found)


def told_of(word, items):
    # The lines that ask a statement's machine, and change nothing.
    if word == "true":
        return yes_or_no(lets_by(items[0], items[1]))
    if word == "always":
        return always_text(items[0])
    if word == "some":
        return some_text(items[0])
    if word == "alike":
        return alike_text(items[0], items[1])
    if word == "count":
        return str(counted(items[0], items[1]))
    if word == "nth":
        return tree_text(tree_at(items[0], items[1], items[2]))
    if word == "fills":
        return str(fillings(items[0], items[1], items[2]))
    return fill_text(items[0], items[1], items[2])


class Desk:
    def __init__(self):
        # Under a name: the statement and its machine, or the tree and None.
        self.things = {}
        self.held = None

    def found(self, kind, item):
        # What an item of a line stands for: a machine, a tree, or itself.
        if kind not in ("known", "say", "wood"):
            return item
        if item not in self.things:
            raise NoName("the name stands for nothing")
        thing = self.things[item]
        if kind == "known":
            return item
        if (kind == "say") != (thing[1] is not None):
            raise NoName("the name does not stand for such a thing")
        return thing[1] if kind == "say" else thing[0]

    def ask(self, line):
        asked = read_line(line)
        word = asked[0]
        items = [self.found(kind, item) for kind, item in zip(kinds_of(word), asked[1])]
        if word in IN_HAND or word == "keep":
            if self.held is None:
                raise NothingHeld("nothing is in hand")
        if word in IN_HAND:
            self.do_in_hand(word, items)
            return yes_or_no(self.held.lets_now())
        if word == "hold":
            self.held = Kept(items[0], items[1])
            return yes_or_no(self.held.lets_now())
        if word in ("say", "tree", "keep"):
            self.things[items[0]] = self.thing_of(word, items)
            return "kept"
        if word in ("drop", "show", "names"):
            return self.told_of_names(word, items)
        return told_of(word, items)

    def thing_of(self, word, items):
        if word == "say":
            statement = read_statement(items[1])
            return (statement, machine_of(statement))
        return (read_tree(items[1]) if word == "tree" else self.held.tree_now(), None)

    def told_of_names(self, word, items):
        if word == "drop":
            self.things.pop(items[0])
            return "dropped"
        if word == "names":
            return " ".join(sorted(self.things)) if len(self.things) > 0 else "-"
        thing = self.things[items[0]]
        return tree_text(thing[0]) if thing[1] is None else statement_text(thing[0])

    def do_in_hand(self, word, items):
        if word == "put":
            self.held.put(items[0], items[1])
        elif word == "take":
            self.held.take(items[0], items[1])
        elif word == "branch":
            self.held.branch(items[0], items[1], read_tree(items[2]))
        elif word == "back":
            self.held.back()
        else:
            self.held.again()
