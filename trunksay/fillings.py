"""The fillings of a tree with letters that a machine lets by: how many, the one of a number, ranks, chances."""

from trunksay.counts import come_to, empty_counts, let_many
from trunksay.errors import NoNumber, TooGreat
from trunksay.listing import good_weights
from trunksay.names import in_order, letter_of, marks_of, two_to
from trunksay.runs import room_below
from trunksay.trees import links_of, sizes_of, up_from, ups_of

MOST_FILLED = 4


def check_filled(names):
    if len(names) > MOST_FILLED:
        raise TooGreat("there are more than four names to be filled")


def without(marks, names):
    return "".join([letter for letter in marks if letter not in names])


def numbers_at(machine, names, marks):
    # A choice is a number of marks over the names. For each one: the number over the machine's own names of the
    # place's marks with that choice.
    bare = letter_of(machine[0], without(marks, names))
    return [bare + letter_of(machine[0], marks_of(names, choice)) for choice in range(two_to(len(names)))]


def times_of(numbers):
    # Choices that the machine reads alike are reckoned together.
    times = {}
    for number in numbers:
        times[number] = times.get(number, 0) + 1
    return times


def counts_at(machine, times, lefts, rights):
    many = [0 for room in machine[1]]
    for left in come_to(lefts):
        for right in come_to(rights):
            pairs = lefts[left] * rights[right]
            for number, each in times.items():
                room = machine[2][number][left][right]
                many[room] = many[room] + pairs * each
    return many


def pair_weight(machine, times, weights, left, right):
    return sum([weights[machine[2][number][left][right]] * each for number, each in times.items()])


def right_weights(machine, times, weights, left):
    return [pair_weight(machine, times, weights, left, right) for right in range(len(weights))]


def left_weights(machine, times, weights, rights):
    rooms = come_to(rights)
    found = []
    for left in range(len(weights)):
        found.append(sum([pair_weight(machine, times, weights, left, right) * rights[right] for right in rooms]))
    return found


def parts_begun(tree):
    # For each place the parts whose places begin with it, from the greatest to the least one.
    begun = [[] for place in tree]
    sizes = sizes_of(tree)
    for place in range(len(tree) - 1, -1, -1):
        begun[place + 1 - sizes[place]].append(place)
    return begun


# A tree's places, filled one after the other in their order, as the order of trees looks at them.
class Course:
    def __init__(self, machine, tree, names):
        check_filled(names)
        self.machine = machine
        self.tree = tree
        self.names = names
        self.links = links_of(tree)
        self.ups = ups_of(tree)
        self.begun = parts_begun(tree)
        self.numbers = [numbers_at(machine, names, place[1]) for place in tree]
        self.times = [times_of(numbers) for numbers in self.numbers]
        # For each place how many fillings of the part at it come to each room.
        self.counts = []
        for times, pair in zip(self.times, self.links):
            self.counts.append(counts_at(machine, times, self.counts_below(pair[0]), self.counts_below(pair[1])))
        # For each part that is begun: how many fillings of all behind it, all ahead of it being filled, are let by,
        # for each room to which the part may come.
        self.weights = {}
        self.rooms = []
        self.marks = []

    def counts_below(self, place):
        return empty_counts(self.machine) if place is None else self.counts[place]

    def let_all(self):
        return let_many(self.machine, self.counts_below(len(self.tree) - 1 if len(self.tree) > 0 else None))

    def begin_part(self, place):
        up = up_from(self.ups, place)
        if up is None:
            self.weights[place] = good_weights(self.machine)
        elif self.links[up][0] == place:
            rights = self.counts_below(self.links[up][1])
            self.weights[place] = left_weights(self.machine, self.times[up], self.weights[up], rights)
        else:
            left = room_below(self.rooms, self.links[up][0])
            self.weights[place] = right_weights(self.machine, self.times[up], self.weights[up], left)

    def room_by(self, place, choice):
        leads = self.machine[2][self.numbers[place][choice]]
        pair = self.links[place]
        return leads[room_below(self.rooms, pair[0])][room_below(self.rooms, pair[1])]

    def offers(self):
        # For the place that is to be filled next: for each choice how many fillings that have it are let by.
        place = len(self.rooms)
        for part in self.begun[place]:
            self.begin_part(part)
        return [self.weights[place][self.room_by(place, choice)] for choice in range(len(self.numbers[place]))]

    def choose(self, choice):
        place = len(self.rooms)
        self.rooms.append(self.room_by(place, choice))
        self.marks.append(in_order(without(self.tree[place][1], self.names) + marks_of(self.names, choice)))

    def filled_tree(self):
        return tuple([(place[0], marks) for place, marks in zip(self.tree, self.marks)])


def numbered_filling(course, number):
    rest = number
    for place in course.tree:
        choice = 0
        offers = course.offers()
        while rest >= offers[choice]:
            rest = rest - offers[choice]
            choice = choice + 1
        course.choose(choice)
    return course.filled_tree()


def fillings(machine, tree, names):
    return Course(machine, tree, names).let_all()


def filling_at(machine, tree, names, number):
    course = Course(machine, tree, names)
    if number < 0 or number >= course.let_all():
        raise NoNumber("no filling has that number")
    return numbered_filling(course, number)


def filled(machine, tree, names):
    course = Course(machine, tree, names)
    return numbered_filling(course, 0) if course.let_all() > 0 else None


def filling_rank(machine, tree, names):
    course = Course(machine, tree, names)
    many = 0
    for place in tree:
        choice = letter_of(names, place[1])
        many = many + sum(course.offers()[:choice])
        course.choose(choice)
    return many


def chances_of(machine, tree, names):
    return tuple([tuple(come_to(many)) for many in Course(machine, tree, names).counts])
