"""Trees as tuples of places: links, sizes, parts; joined, taken apart, a branch put."""

from trunksay.errors import NoPlace, TooGreat
from trunksay.names import is_row

MOST_PLACES = 100


def has_left(place):
    return place[0] in (1, 3)


def has_right(place):
    return place[0] in (2, 3)


def is_whole(value):
    return isinstance(value, int) and not isinstance(value, bool)


def is_place(place):
    if not isinstance(place, tuple) or len(place) != 2:
        return False
    if not is_whole(place[0]) or not isinstance(place[1], str):
        return False
    return 0 <= place[0] <= 3 and is_row(place[1])


def is_tree(places):
    # Each place takes its branches from the parts that stand finished ahead of it.
    finished = 0
    for place in places:
        if not is_place(place):
            return False
        if has_left(place):
            finished = finished - 1
        if has_right(place):
            finished = finished - 1
        if finished < 0:
            return False
        finished = finished + 1
    return len(places) == 0 or finished == 1


def links_of(tree):
    links = []
    tops = []
    for number, place in enumerate(tree):
        # The right branch stands behind the left one, so its top is met first.
        right = tops.pop() if has_right(place) else None
        left = tops.pop() if has_left(place) else None
        tops.append(number)
        links.append((left, right))
    return tuple(links)


def ups_of(tree):
    # For each side: for each place the place whose branch at that side it tops, or None.
    lefts = [None for place in tree]
    rights = [None for place in tree]
    for number, pair in enumerate(links_of(tree)):
        if pair[0] is not None:
            lefts[pair[0]] = number
        if pair[1] is not None:
            rights[pair[1]] = number
    return (lefts, rights)


def up_from(ups, place):
    # The place right above, None for the top.
    return ups[0][place] if ups[0][place] is not None else ups[1][place]


def sizes_of(tree):
    sizes = []
    for left, right in links_of(tree):
        size = 1
        if left is not None:
            size = size + sizes[left]
        if right is not None:
            size = size + sizes[right]
        sizes.append(size)
    return tuple(sizes)


def check_place(tree, place):
    # The words leave the number out: a very great one can't be made a text.
    if place < 0 or place >= len(tree):
        raise NoPlace("the tree has no place of that number")


def check_size(size):
    if size > MOST_PLACES:
        raise TooGreat("that makes more than 100 places")


def part_at(tree, place):
    check_place(tree, place)
    return tree[place + 1 - sizes_of(tree)[place]:place + 1]


def branches_at(tree, place):
    below = part_at(tree, place)[:-1]
    right_size = 0
    if has_right(tree[place]):
        # The top of a right branch stands straight ahead of the place.
        right_size = sizes_of(tree)[place - 1]
    middle = len(below) - right_size
    return (below[:middle], below[middle:])


def with_top(left, right, marks):
    branches = 0
    if len(left) > 0:
        branches = branches + 1
    if len(right) > 0:
        branches = branches + 2
    return left + right + ((branches, marks),)


def joined(left, right, marks):
    check_size(len(left) + len(right) + 1)
    return with_top(left, right, marks)


def taken_apart(tree):
    top = len(tree) - 1
    # Of the empty tree this is -1, which is no place's number, so that it is refused here.
    branches = branches_at(tree, top)
    return (branches[0], branches[1], tree[top][1])


def branch_put(tree, place, side, other):
    branches = branches_at(tree, place)
    left = other if side == "left" else branches[0]
    right = other if side == "right" else branches[1]
    start = place - len(branches[0]) - len(branches[1])
    changed = tree[:start] + with_top(left, right, tree[place][1]) + tree[place + 1:]
    check_size(len(changed))
    return changed
