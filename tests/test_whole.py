"""What the document promises over the whole program: the interface, the kinds of values, refusals, point 3."""

import importlib
import inspect
import random
import unittest

from trunksay import errors
from trunksay.alike import alike_rows, apart_tree
from trunksay.counts import counted
from trunksay.fillings import filling_at, filling_rank, fillings
from trunksay.going import holds
from trunksay.least import least_of
from trunksay.listing import listed, rank_of, tree_at
from trunksay.record import machine_of, record_of, shown_record
from trunksay.runs import lets_by
from trunksay.statements import names_of
from trunksay.verdicts import always_lets, ever_lets, first_let

from tests.helping import REFUSALS, is_machine, is_plain, ordered_trees, random_machine, random_statement

# Each function with its number of arguments, as the document's interface has them.
INTERFACE = {
    "names": {"is_letter": 1, "is_small": 1, "in_order": 1, "letter_of": 2, "marks_of": 2},
    "trees": {"is_tree": 1, "links_of": 1, "sizes_of": 1, "part_at": 2, "joined": 3, "taken_apart": 1, "branch_put": 4},
    "wearing": {"borne_by": 2, "dressed_in": 3},
    "order": {"comes_ahead": 2},
    "treetext": {"tree_text": 1, "read_tree": 1},
    "statements": {"names_of": 1, "parts_many": 1},
    "saying": {"statement_text": 1, "read_statement": 1},
    "steps": {"steps_of": 1},
    "going": {"ways_of": 2, "holds": 2},
    "machines": {"entries_of": 1, "widened": 2},
    "runs": {"rooms_of": 2, "lets_by": 2},
    "bases": {"base_of": 1},
    "firsts": {"firsts_of": 1, "first_tree": 2},
    "least": {"least_of": 1},
    "unlike": {"unlike_rows": 1},
    "papers": {"shown": 4},
    "joining": {"flipped": 1, "both": 2, "either": 2},
    "hiding": {"hidden": 2, "shown_hidden": 4},
    "record": {"record_of": 1, "machine_of": 1, "shown_record": 1},
    "counts": {"counts_of": 2, "counted": 2},
    "listing": {"tree_at": 3, "rank_of": 2, "listed": 2},
    "verdicts": {"first_let": 1, "always_lets": 1, "ever_lets": 1},
    "alike": {"alike_rows": 2, "apart_tree": 2},
    "fillings": {"fillings": 3, "filling_at": 4, "filled": 3, "filling_rank": 3, "chances_of": 3},
    "kept": {"Kept": 2},
    "desk": {"Desk": 0},
}
METHODS = {
    ("kept", "Kept"): {"put": 2, "take": 2, "branch": 3, "whole": 1, "back": 0, "again": 0, "tree_now": 0, "rooms_now": 0,
                       "lets_now": 0, "reckoned": 0},
    ("desk", "Desk"): {"ask": 1},
}


class Interface(unittest.TestCase):
    def check(self, called, many):
        inspect.signature(called).bind(*range(many))
        for wrong in (many - 1, many + 1):
            if wrong >= 0:
                self.assertRaises(TypeError, inspect.signature(called).bind, *range(wrong))

    def test_functions_and_classes(self):
        for module, functions in INTERFACE.items():
            for name, many in functions.items():
                self.check(getattr(importlib.import_module("trunksay." + module), name), many)

    def test_methods(self):
        for (module, owner), methods in METHODS.items():
            for name, many in methods.items():
                self.check(getattr(getattr(importlib.import_module("trunksay." + module), owner), name), many + 1)

    def test_refusals(self):
        self.assertEqual(errors.TrunkError.__bases__, (ValueError,))
        for name in REFUSALS:
            self.assertEqual(getattr(errors, name).__bases__, (errors.TrunkError,))


class ThePromise(unittest.TestCase):
    def test_statements_by_their_machines(self):
        chance = random.Random(3)
        told = 0
        for _ in range(80):
            statement = random_statement(chance, chance.randrange(1, 12))
            try:
                lines = record_of(statement)
            except errors.TooGreat:
                continue
            told += 1
            self.assertTrue(is_plain(lines))
            self.assertIs(shown_record(lines), True)
            machine = lines[-1][1]
            self.assertTrue(is_machine(machine))
            self.assertEqual(machine[0], names_of(statement))
            for size in range(3 if len(machine[0]) < 3 else 2):
                for tree in ordered_trees(size, machine[0]):
                    try:
                        self.assertIs(lets_by(machine, tree), holds(statement, tree))
                    except errors.TooGreat:
                        pass
        self.assertGreater(told, 60)

    def test_the_same_trees_just_where_the_least_machines_are_equal(self):
        chance = random.Random(4)
        answers = []
        for _ in range(300):
            names = chance.choice(("", "A"))
            one, other = [random_machine(chance, names, chance.randrange(1, 3)) for _ in range(2)]
            answers.append(least_of(one)[0] == least_of(other)[0])
            self.assertIs(alike_rows(one, other) is not None, answers[-1])
            self.assertIs(apart_tree(one, other) is None, answers[-1])
        self.assertTrue(answers.count(True) > 30 and answers.count(False) > 30)

    def test_first_trees_lists_and_fillings_are_in_one_order(self):
        chance = random.Random(5)
        for _ in range(60):
            machine = random_machine(chance, chance.choice(("", "A")), chance.randrange(1, 5))
            trees = [tree for size in range(4) for tree in listed(machine, size)]
            if trees:
                self.assertEqual(first_let(machine), trees[0])
                self.assertEqual(ever_lets(machine), ("some", trees[0]))
            for tree in trees:
                number = rank_of(machine, tree)
                self.assertEqual(tree_at(machine, len(tree), number), tree)
                place = filling_rank(machine, tree, machine[0])
                self.assertEqual(filling_at(machine, tree, machine[0], place), tree)
            # The trees of a size are the fillings of its shapes.
            for size in range(4):
                shapes = ordered_trees(size, "")
                self.assertEqual(sum(fillings(machine, shape, machine[0]) for shape in shapes), counted(machine, size))

    def test_always_where_nothing_is_apart_from_all(self):
        chance = random.Random(6)
        for _ in range(100):
            machine = random_machine(chance, chance.choice(("", "A")), chance.randrange(1, 4))
            every = (machine[0], (True,), (((0,),),) * 2 ** len(machine[0]))
            verdict = always_lets(machine)
            self.assertEqual(apart_tree(machine, every), None if verdict[0] == "always" else verdict[1])

    def test_anything_may_be_asked_behind_a_refusal(self):
        statement = ("in", "A", "B")
        machine = machine_of(statement)
        for _ in range(2):
            self.assertRaises(errors.TooGreat, counted, machine, 25)
            self.assertEqual(counted(machine, 2), 18)
            self.assertRaises(errors.NoNumber, tree_at, machine, 1, 3)
            self.assertEqual(tree_at(machine, 1, 2), ((0, "AB"),))
            self.assertRaises(errors.TooGreat, listed, machine, 5)
            self.assertEqual(len(listed(machine, 3)), 135)
            self.assertEqual(machine_of(statement), machine)


if __name__ == "__main__":
    unittest.main()
