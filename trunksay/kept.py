"""A tree that is kept with a machine, changed by deeds, and its rooms, reckoned anew only where they may change."""

from trunksay.errors import NothingDone
from trunksay.names import in_order
from trunksay.runs import room_at, rooms_of
from trunksay.trees import branch_put, branches_at, check_place, links_of, up_from, ups_of


# A deed is (tree before, place before, tree behind, place behind, side). The place is None for whole; the side is None
# but for branch, which may change the number of the place.
def turned(deed):
    return (deed[2], deed[3], deed[0], deed[1], deed[4])


def with_marks(tree, place, marks):
    return tree[:place] + ((tree[place][0], marks),) + tree[place + 1:]


def branch_rooms(machine, rooms, deed):
    # The rooms of all places behind a branch, with those of the new branch reckoned and all others as they were; and
    # how many were reckoned.
    old = branches_at(deed[0], deed[1])
    new = branches_at(deed[2], deed[3])
    start = deed[1] - len(old[0]) - len(old[1])
    middle = start + len(old[0])
    if deed[4] == "left":
        fresh = rooms_of(machine, new[0])
        return (rooms[:start] + fresh + rooms[middle:], len(fresh))
    fresh = rooms_of(machine, new[1])
    return (rooms[:middle] + fresh + rooms[deed[1]:], len(fresh))


def climbed(machine, tree, rooms, place):
    # The rooms with those of the place and of the places above it reckoned anew, up to the first one that stays; and
    # how many were reckoned.
    links = links_of(tree)
    ups = ups_of(tree)
    fresh = list(rooms)
    many = 0
    at = place
    while at is not None:
        room = room_at(machine, tree[at][1], links[at], fresh)
        many = many + 1
        if room == fresh[at]:
            break
        fresh[at] = room
        at = up_from(ups, at)
    return (tuple(fresh), many)


class Kept:
    def __init__(self, machine, tree):
        self.machine = machine
        self.tree = tree
        self.rooms = rooms_of(machine, tree)
        self.many = len(tree)
        self.standing = []
        self.taken_back = []

    def carry_out(self, deed):
        if deed[1] is None:
            self.rooms = rooms_of(self.machine, deed[2])
            self.many = len(deed[2])
        else:
            moved = (self.rooms, 0)
            if deed[4] is not None:
                moved = branch_rooms(self.machine, self.rooms, deed)
            above = climbed(self.machine, deed[2], moved[0], deed[3])
            self.rooms = above[0]
            self.many = moved[1] + above[1]
        self.tree = deed[2]

    def do_deed(self, deed):
        self.carry_out(deed)
        self.standing.append(deed)
        self.taken_back = []

    def mark_deed(self, place, marks):
        self.do_deed((self.tree, place, with_marks(self.tree, place, marks), place, None))

    def put(self, place, letter):
        check_place(self.tree, place)
        self.mark_deed(place, in_order(self.tree[place][1] + letter))

    def take(self, place, letter):
        check_place(self.tree, place)
        self.mark_deed(place, self.tree[place][1].replace(letter, ""))

    def branch(self, place, side, tree):
        changed = branch_put(self.tree, place, side, tree)
        # What is put or goes stands ahead of the place, so its number moves by as many places.
        self.do_deed((self.tree, place, changed, place + len(changed) - len(self.tree), side))

    def whole(self, tree):
        self.do_deed((self.tree, None, tree, None, None))

    def back(self):
        if len(self.standing) == 0:
            raise NothingDone("no deed stands")
        deed = self.standing.pop()
        self.carry_out(turned(deed))
        self.taken_back.append(deed)

    def again(self):
        if len(self.taken_back) == 0:
            raise NothingDone("no deed was taken back")
        deed = self.taken_back.pop()
        self.carry_out(deed)
        self.standing.append(deed)

    def tree_now(self):
        return self.tree

    def rooms_now(self):
        return self.rooms

    def lets_now(self):
        return self.machine[1][self.rooms[-1] if len(self.rooms) > 0 else 0]

    def reckoned(self):
        return self.many
