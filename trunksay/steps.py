"""The steps of a statement."""

from trunksay.names import is_small
from trunksay.statements import JOINING, is_plain


def put_step(steps, step):
    # Told is the step's number, as the steps behind it name it so.
    steps.append(step)
    return len(steps) - 1


def put_bound(steps, statement):
    word = statement[0]
    letter = statement[1]
    first = put_step(steps, ("one", letter)) if is_small(letter) else None
    last = put_steps(steps, statement[2])
    if word == "all":
        last = put_step(steps, ("not", last))
    if first is not None:
        last = put_step(steps, ("and", first, last))
    last = put_step(steps, ("hide", letter, last))
    if word == "all":
        last = put_step(steps, ("not", last))
    return last


def put_steps(steps, statement):
    word = statement[0]
    if is_plain(statement):
        return put_step(steps, statement)
    if word == "not":
        return put_step(steps, ("not", put_steps(steps, statement[1])))
    if word in JOINING:
        one = put_steps(steps, statement[1])
        other = put_steps(steps, statement[2])
        return put_step(steps, (word, one, other))
    return put_bound(steps, statement)


def steps_of(statement):
    steps = []
    put_steps(steps, statement)
    return tuple(steps)
