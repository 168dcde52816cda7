"""The record of a statement, its machine, and the looker of a record."""

from trunksay.bases import base_of
from trunksay.hiding import hidden, shown_hidden
from trunksay.joining import both, either, flipped
from trunksay.least import least_of
from trunksay.papers import shown
from trunksay.statements import is_plain
from trunksay.steps import steps_of


def lines_named(step):
    # The numbers of the lines that a step names.
    if is_plain(step):
        return ()
    return step[2:] if step[0] == "hide" else step[1:]


def machines_named(step, lines):
    return tuple([lines[number][1] for number in lines_named(step)])


def made_by(step, lines):
    word = step[0]
    parts = machines_named(step, lines)
    if is_plain(step):
        return least_of(base_of(step))
    if word == "not":
        return flipped(parts[0])
    if word == "and":
        return both(parts[0], parts[1])
    if word == "or":
        return either(parts[0], parts[1])
    return hidden(parts[0], step[1])


def record_of(statement):
    lines = []
    for step in steps_of(statement):
        made = made_by(step, lines)
        lines.append((step, made[0], made[1]))
    return tuple(lines)


def machine_of(statement):
    return record_of(statement)[-1][1]


def line_shown(line, lines):
    step = line[0]
    parts = machines_named(step, lines)
    if is_plain(step):
        return shown("same", (base_of(step),), line[1], line[2])
    if step[0] == "hide":
        return shown_hidden(parts[0], step[1], line[1], line[2])
    return shown(step[0], parts, line[1], line[2])


def shown_record(lines):
    for number, line in enumerate(lines):
        if not all([0 <= named < number for named in lines_named(line[0])]):
            return False
        if not line_shown(line, lines):
            return False
    return True
