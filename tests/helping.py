"""What the tests share: refusals looked at closely, kinds of values, trees made in other ways."""

import itertools

from trunksay import errors

REFUSALS = ("NoTree", "NoStatement", "NoPlace", "NoNumber", "TooGreat",
            "NoName", "NoLine", "NothingDone", "NothingHeld")

THIRTEEN = "ABCDEFGHIJKLM"
SHAPES = {}
ORDERED = {}


def check_refused(case, name, function, *handed):
    """The call is refused with the class of that name, and with no other class of the document."""
    with case.assertRaises(errors.TrunkError) as caught:
        function(*handed)
    for each in REFUSALS:
        case.assertEqual(isinstance(caught.exception, getattr(errors, each)), each == name, each)


def is_plain(value):
    """Whether a value is a whole number, a text, a truth, None, or a tuple of such things."""
    if type(value) is tuple:
        return all(is_plain(item) for item in value)
    return value is None or type(value) in (int, str, bool)


def nested_shapes(size):
    """All shapes of so many places as nested pairs (left, right), None being the empty one."""
    if size == 0:
        return [None]
    if size not in SHAPES:
        SHAPES[size] = [(left, right)
                        for many in range(size)
                        for left in nested_shapes(many)
                        for right in nested_shapes(size - 1 - many)]
    return SHAPES[size]


def flat(shape, marks):
    """The tree of a nested shape; marks is an iterator that gives each place's marks in order."""
    if shape is None:
        return ()
    left = flat(shape[0], marks)
    right = flat(shape[1], marks)
    branches = (1 if left else 0) + (2 if right else 0)
    return left + right + ((branches, next(marks)),)


def trees_over(size, choices):
    """All trees of so many places whose marks are taken from the choices."""
    found = []
    for shape in nested_shapes(size):
        for number in range(len(choices) ** size):
            marks = []
            for _ in range(size):
                marks.append(choices[number % len(choices)])
                number = number // len(choices)
            found.append(flat(shape, iter(marks)))
    return found


def chain(size, side, marks=""):
    """A tree without a fork: each place but the lowest has one branch, at that side."""
    if size == 0:
        return ()
    return ((0, marks),) + ((1 if side == "left" else 2, marks),) * (size - 1)


def bushy(size, marks):
    """A tree as low as can be, with the left branches the greater ones; marks is an iterator as for flat."""
    if size == 0:
        return ()
    right = (size - 1) // 2
    lower = bushy(size - 1 - right, marks) + bushy(right, marks)
    return lower + (((1 if size > 1 else 0) + (2 if right else 0), next(marks)),)


def nested(tree):
    """The tree as nested tuples (left, right, marks, number), None being the empty one."""
    waiting = []
    for number, (branches, marks) in enumerate(tree):
        right = waiting.pop() if branches & 2 else None
        left = waiting.pop() if branches & 1 else None
        waiting.append((left, right, marks, number))
    return waiting[0] if waiting else None


def every_form():
    """Pairs of a statement and its text: each form, of each form within."""
    pairs = [(("one", "a"), "one a")]
    for word in ("in", "left", "right", "below"):
        pairs.extend([((word, "x", "A"), "x " + word + " A"), ((word, "B", "B"), "B " + word + " B")])
    for _ in range(2):
        inner = pairs[:6] + pairs[-8:]
        for statement, text in inner:
            pairs.append((("not", statement), "not " + text))
            for word in ("some", "all"):
                for letter in "xX":
                    pairs.append(((word, letter, statement), word + " " + letter + " " + text))
        for word in ("and", "or"):
            for one, one_text in inner:
                for other, other_text in inner:
                    pairs.append(((word, one, other), "( " + one_text + " " + word + " " + other_text + " )"))
    return pairs


def machine_by(names, good, rule):
    """A machine whose table is told by a rule of (letter, left room, right room)."""
    rooms = range(len(good))
    return (names, tuple(good), tuple(
        tuple(tuple(rule(letter, left, right) for right in rooms) for left in rooms)
        for letter in range(2 ** len(names))))


def random_machine(chance, names, rooms):
    """Any machine; low rooms come oftener where the chance will have it, so that some are hard to come to."""
    low = chance.random() < 0.5
    return machine_by(names, [chance.random() < 0.5 for _ in range(rooms)],
                      lambda letter, left, right: min(chance.randrange(rooms), chance.randrange(rooms) if low else rooms))


def every_machine(names, rooms):
    """All machines of so many rooms over the names."""
    entries = rooms * rooms * 2 ** len(names)
    for number in range(rooms ** entries):
        for goods in range(2 ** rooms):
            yield machine_by(names, [goods >> room & 1 == 1 for room in range(rooms)],
                             lambda letter, left, right:
                             number // rooms ** ((letter * rooms + left) * rooms + right) % rooms)


ONE_ROOM = ("", (True,), (((0,),),))
NEVER = ("", (False,), (((0,),),))
# Whether the number of places that one goes down at the left is odd.
PARITY = machine_by("", [False, True], lambda letter, left, right: (left + 1) % 2)


def ordered_trees(size, names):
    """All trees over the names of so many places, each ahead of all behind it."""
    if size == 0:
        return [()]
    if (size, names) not in ORDERED:
        found = []
        for many in range(size):
            for left in ordered_trees(many, names):
                for right in ordered_trees(size - 1 - many, names):
                    branches = (1 if left else 0) + (2 if right else 0)
                    for marks in marks_in_order(names):
                        found.append(left + right + ((branches, marks),))
        ORDERED[(size, names)] = found
    return ORDERED[(size, names)]


def marks_in_order(names):
    """All marks over the names; the first name is the last one to be put."""
    found = [""]
    for name in reversed(names):
        found = found + [name + marks for marks in found]
    return found


def room_by_words(machine, node):
    """The room of a nested tree, by the words of the document."""
    if node is None:
        return 0
    number = 0
    for place, name in enumerate(reversed(machine[0])):
        if name in node[2]:
            number += 2 ** place
    return machine[2][number][room_by_words(machine, node[0])][room_by_words(machine, node[1])]


def let_by_words(machine, tree):
    return machine[1][room_by_words(machine, nested(tree))]


def rooms_come_to(machine):
    """All rooms to which some tree comes, rising."""
    found = {0}
    while True:
        more = found | {leads[left][right] for leads in machine[2] for left in found for right in found}
        if more == found:
            return sorted(found)
        found = more


def is_machine(value):
    """Whether a value is a machine in each of its kinds."""
    names, good, table = value
    rooms = len(good)
    return (type(names) is str and names == "".join(sorted(set(names)))
            and type(good) is tuple and rooms >= 1 and all(type(each) is bool for each in good)
            and type(table) is tuple and len(table) == 2 ** len(names)
            and all(type(leads) is tuple and len(leads) == rooms for leads in table)
            and all(type(row) is tuple and len(row) == rooms for leads in table for row in leads)
            and all(type(room) is int and 0 <= room < rooms for leads in table for row in leads for room in row))


def renumbered(machine, order):
    """The machine with its rooms in another order: order tells for each new number the old one, 0 for 0."""
    where = {room: number for number, room in enumerate(order)}
    return machine_by(machine[0], [machine[1][room] for room in order],
                      lambda letter, left, right: where[machine[2][letter][order[left]][order[right]]])


def apart_by_words(machine):
    """For each two rooms a < b, to each of which some tree comes, that are apart: (steps, why), by the words."""
    rooms = rooms_come_to(machine)
    pairs = [(a, b) for a in rooms for b in rooms if a < b]
    found = {(a, b): (0, ()) for a, b in pairs if machine[1][a] != machine[1][b]}
    steps = 0
    while True:
        more = {}
        for a, b in pairs:
            whys = [(letter, side, third) for letter, leads in enumerate(machine[2]) for side in (0, 1) for third in rooms
                    if found.get(led_apart(leads, side, third, a, b), (None,))[0] == steps]
            if (a, b) not in found and whys:
                more[(a, b)] = (steps + 1, min(whys))
        if not more:
            return found
        found.update(more)
        steps += 1


def led_apart(leads, side, third, a, b):
    """The two rooms, the lesser one first, to which a and b lead."""
    return tuple(sorted(leads[third][room] if side else leads[room][third] for room in (a, b)))


def shown_by_words(word, parts, made, rows):
    """What the looker is to tell where it is not refused, by the words of the document."""
    machines = parts + (made,)
    rows = set(rows)
    if any(not 0 <= number < len(machine[1]) for row in rows for machine, number in zip(machines, row)):
        return False
    if (0,) * len(machines) not in rows:
        return False
    for row in rows:
        *goods, last = [machine[1][number] for machine, number in zip(machines, row)]
        if last != {"same": goods[0], "not": not goods[0], "and": all(goods), "or": any(goods)}[word]:
            return False
    for marks in marks_in_order("".join(sorted(set("".join(machine[0] for machine in machines))))):
        letters = [marks_in_order(machine[0]).index("".join(sign for sign in marks if sign in machine[0]))
                   for machine in machines]
        for left in rows:
            for right in rows:
                led = tuple(machine[2][letter][left[place]][right[place]]
                            for place, (machine, letter) in enumerate(zip(machines, letters)))
                if led not in rows:
                    return False
    return True


def idle(names, rooms=1):
    """A machine that comes to room 0 whatever is read, and lets all by."""
    return machine_by(names, [True] * rooms, lambda letter, left, right: 0)


def left_deep(names, rooms):
    """The room is how often one goes down at the left, by places that bear all names, but never more than the last."""
    last = 2 ** len(names) - 1
    return machine_by(names, [room == rooms - 1 for room in range(rooms)], lambda letter, left, right:
                      min(left + 1, rooms - 1) if letter == last else 0)


def best_keys(machine):
    """For each room the key of its first tree, found by going round until nothing gets better. A key is
    (size, left key, right key, letter), the empty tree's is (0,), so keys compare as the trees do."""
    best = {0: (0,)}
    while True:
        better = dict(best)
        for left, one in best.items():
            for right, other in best.items():
                for letter, leads in enumerate(machine[2]):
                    key = (one[0] + other[0] + 1, one, other, letter)
                    room = leads[left][right]
                    if room not in better or key < better[room]:
                        better[room] = key
        if better == best:
            return best
        best = better


def rows_by_keys(machine):
    best = best_keys(machine)
    rooms = {key: room for room, key in best.items()}
    return tuple((rooms[key], key[0], () if key[0] == 0 else (rooms[key[1]], rooms[key[2]], key[3]))
                 for key in sorted(rooms))


def check_least(case, machine):
    """Some tree comes to each room, in the order of their numbers, and each two rooms are apart."""
    rooms = len(machine[1])
    case.assertTrue(is_machine(machine))
    case.assertEqual([row[0] for row in rows_by_keys(machine)], list(range(rooms)))
    case.assertEqual(len(apart_by_words(machine)), rooms * (rooms - 1) // 2)


def pairs_come_to(one, other, names):
    """All pairs of rooms such that some tree comes to both, sorted."""
    letters = [[marks_in_order(machine[0]).index("".join(sign for sign in marks if sign in machine[0]))
                for machine in (one, other)] for marks in marks_in_order(names)]
    found = {(0, 0)}
    while True:
        more = found | {(one[2][first][left[0]][right[0]], other[2][second][left[1]][right[1]])
                        for first, second in letters for left in found for right in found}
        if more == found:
            return sorted(found)
        found = more


# Chains at the left up to room 50, and behind it two rooms whose first trees have 100 and 101 places.
EDGES = machine_by("", [True] * 54, lambda letter, left, right:
                   left + 1 if right == 0 and left < 50 else {(50, 49): 51, (50, 50): 52}.get((left, right), 0))


class Said:
    """What a statement says, by the words of the document, over nested trees and sets of places."""

    def __init__(self, tree):
        self.places = range(len(tree))
        self.borne = {}
        for number, (_, marks) in enumerate(tree):
            for letter in marks:
                self.borne.setdefault(letter, set()).add(number)
        self.pairs = {"left": set(), "right": set(), "below": set()}
        if tree:
            self.find_pairs(nested(tree))

    def find_pairs(self, node):
        """All places of a node; each pair is a lower and an upper place."""
        found = set()
        for word, branch in (("left", node[0]), ("right", node[1])):
            if branch is not None:
                self.pairs[word].add((branch[3], node[3]))
                found |= self.find_pairs(branch)
        self.pairs["below"] |= {(low, node[3]) for low in found}
        return found | {node[3]}

    def true(self, statement, borne=None):
        borne = self.borne if borne is None else borne
        word, rest = statement[0], statement[1:]
        if word == "not":
            return not self.true(rest[0], borne)
        if word in ("and", "or"):
            answers = [self.true(each, borne) for each in rest]
            return answers[0] and answers[1] if word == "and" else answers[0] or answers[1]
        if word in ("some", "all"):
            answers = [self.true(rest[1], {**borne, rest[0]: set(chosen)}) for chosen in self.choices(rest[0])]
            return any(answers) if word == "some" else all(answers)
        first = borne.get(rest[0], set())
        if word == "one":
            return len(first) == 1
        second = borne.get(rest[1], set())
        if word == "in":
            return first <= second
        return all(any((low, high) in self.pairs[word] for high in second) for low in first)

    def choices(self, letter):
        sizes = (1,) if letter.islower() else range(len(self.places) + 1)
        return [chosen for many in sizes for chosen in itertools.combinations(self.places, many)]


def random_statement(chance, parts):
    if parts == 1:
        word = chance.choice(("in", "one", "left", "right", "below"))
        return (word,) + tuple(chance.choice("AXxy") for _ in range(1 if word == "one" else 2))
    word = chance.choice(("not", "some", "all", "and", "or") if parts > 2 else ("not", "some", "all"))
    if word in ("and", "or"):
        first = chance.randrange(1, parts - 1)
        return (word, random_statement(chance, first), random_statement(chance, parts - 1 - first))
    inner = random_statement(chance, parts - 1)
    return (word, inner) if word == "not" else (word, chance.choice("AXxy"), inner)
