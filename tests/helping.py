"""What the tests share: refusals looked at closely, kinds of values, trees made in other ways."""

from trunksay import errors

REFUSALS = ("NoTree", "NoStatement", "NoPlace", "NoNumber", "TooGreat",
            "NoName", "NoLine", "NothingDone", "NothingHeld")

SHAPES = {}
ORDERED = {}


def check_refused(case, name, function, *handed):
    """The call is refused with the class of that name, and with no other class of the document."""
    with case.assertRaises(errors.TrunkError) as caught:
        function(*handed)
    for each in REFUSALS:
        case.assertEqual(isinstance(caught.exception, getattr(errors, each)), each == name, each)


def is_plain(value):
    """Whether a value is a whole number, a text, a truth, None, or a tuple of such things."""
    if type(value) is tuple:
        return all(is_plain(item) for item in value)
    return value is None or type(value) in (int, str, bool)


def nested_shapes(size):
    """All shapes of so many places as nested pairs (left, right), None being the empty one."""
    if size == 0:
        return [None]
    if size not in SHAPES:
        SHAPES[size] = [(left, right)
                        for many in range(size)
                        for left in nested_shapes(many)
                        for right in nested_shapes(size - 1 - many)]
    return SHAPES[size]


def flat(shape, marks):
    """The tree of a nested shape; marks is an iterator that gives each place's marks in order."""
    if shape is None:
        return ()
    left = flat(shape[0], marks)
    right = flat(shape[1], marks)
    branches = (1 if left else 0) + (2 if right else 0)
    return left + right + ((branches, next(marks)),)


def trees_over(size, choices):
    """All trees of so many places whose marks are taken from the choices."""
    found = []
    for shape in nested_shapes(size):
        for number in range(len(choices) ** size):
            marks = []
            for _ in range(size):
                marks.append(choices[number % len(choices)])
                number = number // len(choices)
            found.append(flat(shape, iter(marks)))
    return found


def chain(size, side, marks=""):
    """A tree without a fork: each place but the lowest has one branch, at that side."""
    if size == 0:
        return ()
    return ((0, marks),) + ((1 if side == "left" else 2, marks),) * (size - 1)


def bushy(size, marks):
    """A tree as low as can be, with the left branches the greater ones; marks is an iterator as for flat."""
    if size == 0:
        return ()
    right = (size - 1) // 2
    lower = bushy(size - 1 - right, marks) + bushy(right, marks)
    return lower + (((1 if size > 1 else 0) + (2 if right else 0), next(marks)),)


def nested(tree):
    """The tree as nested tuples (left, right, marks, number), None being the empty one."""
    waiting = []
    for number, (branches, marks) in enumerate(tree):
        right = waiting.pop() if branches & 2 else None
        left = waiting.pop() if branches & 1 else None
        waiting.append((left, right, marks, number))
    return waiting[0] if waiting else None


def every_form():
    """Pairs of a statement and its text: each form, of each form within."""
    pairs = [(("one", "a"), "one a")]
    for word in ("in", "left", "right", "below"):
        pairs.extend([((word, "x", "A"), "x " + word + " A"), ((word, "B", "B"), "B " + word + " B")])
    for _ in range(2):
        inner = pairs[:6] + pairs[-8:]
        for statement, text in inner:
            pairs.append((("not", statement), "not " + text))
            for word in ("some", "all"):
                for letter in "xX":
                    pairs.append(((word, letter, statement), word + " " + letter + " " + text))
        for word in ("and", "or"):
            for one, one_text in inner:
                for other, other_text in inner:
                    pairs.append(((word, one, other), "( " + one_text + " " + word + " " + other_text + " )"))
    return pairs


def machine_by(names, good, rule):
    """A machine whose table is told by a rule of (letter, left room, right room)."""
    rooms = range(len(good))
    return (names, tuple(good), tuple(
        tuple(tuple(rule(letter, left, right) for right in rooms) for left in rooms)
        for letter in range(2 ** len(names))))


def random_machine(chance, names, rooms):
    """Any machine; low rooms come oftener where the chance will have it, so that some are hard to come to."""
    low = chance.random() < 0.5
    return machine_by(names, [chance.random() < 0.5 for _ in range(rooms)],
                      lambda letter, left, right: min(chance.randrange(rooms), chance.randrange(rooms) if low else rooms))


def every_machine(names, rooms):
    """All machines of so many rooms over the names."""
    entries = rooms * rooms * 2 ** len(names)
    for number in range(rooms ** entries):
        for goods in range(2 ** rooms):
            yield machine_by(names, [goods >> room & 1 == 1 for room in range(rooms)],
                             lambda letter, left, right:
                             number // rooms ** ((letter * rooms + left) * rooms + right) % rooms)


ONE_ROOM = ("", (True,), (((0,),),))


def ordered_trees(size, names):
    """All trees over the names of so many places, each ahead of all behind it."""
    if size == 0:
        return [()]
    if (size, names) not in ORDERED:
        found = []
        for many in range(size):
            for left in ordered_trees(many, names):
                for right in ordered_trees(size - 1 - many, names):
                    branches = (1 if left else 0) + (2 if right else 0)
                    for marks in marks_in_order(names):
                        found.append(left + right + ((branches, marks),))
        ORDERED[(size, names)] = found
    return ORDERED[(size, names)]


def marks_in_order(names):
    """All marks over the names; the first name is the last one to be put."""
    found = [""]
    for name in reversed(names):
        found = found + [name + marks for marks in found]
    return found


def room_by_words(machine, node):
    """The room of a nested tree, by the words of the document."""
    if node is None:
        return 0
    number = 0
    for place, name in enumerate(reversed(machine[0])):
        if name in node[2]:
            number += 2 ** place
    return machine[2][number][room_by_words(machine, node[0])][room_by_words(machine, node[1])]


def let_by_words(machine, tree):
    return machine[1][room_by_words(machine, nested(tree))]


def rooms_come_to(machine):
    """All rooms to which some tree comes, rising."""
    found = {0}
    while True:
        more = found | {leads[left][right] for leads in machine[2] for left in found for right in found}
        if more == found:
            return sorted(found)
        found = more


def is_machine(value):
    """Whether a value is a machine in each of its kinds."""
    names, good, table = value
    rooms = len(good)
    return (type(names) is str and names == "".join(sorted(set(names)))
            and type(good) is tuple and rooms >= 1 and all(type(each) is bool for each in good)
            and type(table) is tuple and len(table) == 2 ** len(names)
            and all(type(leads) is tuple and len(leads) == rooms for leads in table)
            and all(type(row) is tuple and len(row) == rooms for leads in table for row in leads)
            and all(type(room) is int and 0 <= room < rooms for leads in table for row in leads for room in row))
