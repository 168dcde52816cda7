"""What the tests share: refusals looked at closely, kinds of values, trees made in other ways."""

from trunksay import errors

REFUSALS = ("NoTree", "NoStatement", "NoPlace", "NoNumber", "TooGreat",
            "NoName", "NoLine", "NothingDone", "NothingHeld")

SHAPES = {}


def check_refused(case, name, function, *handed):
    """The call is refused with the class of that name, and with no other class of the document."""
    with case.assertRaises(errors.TrunkError) as caught:
        function(*handed)
    for each in REFUSALS:
        case.assertEqual(isinstance(caught.exception, getattr(errors, each)), each == name, each)


def is_plain(value):
    """Whether a value is a whole number, a text, a truth, None, or a tuple of such things."""
    if type(value) is tuple:
        return all(is_plain(item) for item in value)
    return value is None or type(value) in (int, str, bool)


def nested_shapes(size):
    """All shapes of so many places as nested pairs (left, right), None being the empty one."""
    if size == 0:
        return [None]
    if size not in SHAPES:
        SHAPES[size] = [(left, right)
                        for many in range(size)
                        for left in nested_shapes(many)
                        for right in nested_shapes(size - 1 - many)]
    return SHAPES[size]


def flat(shape, marks):
    """The tree of a nested shape; marks is an iterator that gives each place's marks in order."""
    if shape is None:
        return ()
    left = flat(shape[0], marks)
    right = flat(shape[1], marks)
    branches = (1 if left else 0) + (2 if right else 0)
    return left + right + ((branches, next(marks)),)


def trees_over(size, choices):
    """All trees of so many places whose marks are taken from the choices."""
    found = []
    for shape in nested_shapes(size):
        for number in range(len(choices) ** size):
            marks = []
            for _ in range(size):
                marks.append(choices[number % len(choices)])
                number = number // len(choices)
            found.append(flat(shape, iter(marks)))
    return found


def chain(size, side, marks=""):
    """A tree without a fork: each place but the lowest has one branch, at that side."""
    if size == 0:
        return ()
    return ((0, marks),) + ((1 if side == "left" else 2, marks),) * (size - 1)


def nested(tree):
    """The tree as nested tuples (left, right, marks, number), None being the empty one."""
    waiting = []
    for number, (branches, marks) in enumerate(tree):
        right = waiting.pop() if branches & 2 else None
        left = waiting.pop() if branches & 1 else None
        waiting.append((left, right, marks, number))
    return waiting[0] if waiting else None


def every_form():
    """Pairs of a statement and its text: each form, of each form within."""
    pairs = [(("one", "a"), "one a")]
    for word in ("in", "left", "right", "below"):
        pairs.extend([((word, "x", "A"), "x " + word + " A"), ((word, "B", "B"), "B " + word + " B")])
    for _ in range(2):
        inner = pairs[:6] + pairs[-8:]
        for statement, text in inner:
            pairs.append((("not", statement), "not " + text))
            for word in ("some", "all"):
                for letter in "xX":
                    pairs.append(((word, letter, statement), word + " " + letter + " " + text))
        for word in ("and", "or"):
            for one, one_text in inner:
                for other, other_text in inner:
                    pairs.append(((word, one, other), "( " + one_text + " " + word + " " + other_text + " )"))
    return pairs
