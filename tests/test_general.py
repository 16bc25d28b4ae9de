"""Point 1: nothing handed in is changed, each told list is new, no clock, chance or files."""

import ast
import copy
import os
import unittest

from blindplan.errors import BadDeed, BadGuess, BadPlan, BadSteps, NoWay
from blindplan.guesses import behind, is_there, need_guess, parts
from blindplan.notes import read, written
from blindplan.plans import gone, leads, need_plan
from blindplan.search import failing, least, never, planned
from tests import examples

PACKAGE = os.path.join(os.path.dirname(os.path.dirname(os.path.abspath(__file__))), "blindplan")
PURE = ["heapq", "math", "itertools", "collections"]
BARRED = ["open", "input", "print", "hash", "id", "eval", "exec", "compile", "globals"]


def trees():
    """The parsed files of the package."""
    found = []
    for folder, _, names in os.walk(PACKAGE):
        for name in sorted(names):
            if name.endswith(".py"):
                with open(os.path.join(folder, name), encoding="utf-8") as file:
                    found.append(ast.parse(file.read()))
    return found


def lists_in(told):
    """Each list in what is told, at any depth."""
    if type(told) not in (list, tuple):
        return []
    found = [told] if type(told) is list else []
    for item in told:
        found += lists_in(item)
    return found


def spoil(told):
    """Change each list in what is told, at any depth."""
    for some in lists_in(told):
        some.append(99)
        some.insert(0, (None, [77]))


def some_calls():
    """Calls that are not refused: each function with its arguments."""
    calls = []
    for house in examples.all_houses():
        most = len(house.looks)
        for guess in ([0], [most - 1], list(range(most))):
            calls += [(least, (house, guess)), (planned, (house, guess)), (never, (house, guess)),
                      (failing, (house, guess, 0)), (failing, (house, guess, 3))]
            plan = ([(look, 0) for look in range(10)], [(0, [(look, 1) for look in range(10)]), (None, [])])
            calls += [(leads, (house, guess, plan)), (need_plan, (house, plan)), (written, (plan,)),
                      (gone, (house, plan, guess[0], [])), (gone, (house, plan, guess[-1], [3, 1]))]
    calls += [(leads, (examples.small_house(), [0, 2], examples.small_plan())),
              (gone, (examples.small_house(), examples.small_plan(), 0, [-5, 4])),
              (read, ("begin 0:1 4:0\n2 0:1\nthere\n",)), (read, ("begin\nthere\nthere\n",)),
              (failing, (examples.closed_house(), list(range(8)), 150)),
              (never, (examples.closed_house(), list(range(8)))),
              (planned, (examples.long_house(), list(range(8))))]
    return calls


def refused_calls():
    """Calls that are refused, each with its error."""
    house, plan = examples.small_house(), examples.small_plan()
    wrong = ([(5, 0)], [(0, [(9, 1), (0, 1)]), (None, [])])
    return [
        (BadPlan, need_plan, (house, wrong)), (BadPlan, leads, (house, [0], wrong)),
        (BadGuess, leads, (house, [2, 0], plan)), (BadPlan, gone, (house, wrong, 0, [1])),
        (BadGuess, gone, (house, plan, 4, [1])), (NoWay, gone, (house, plan, 1, [1])),
        (BadGuess, least, (house, [2, 0])), (BadGuess, planned, (house, [2, 0])),
        (BadGuess, failing, (house, [2, 0], 1)), (BadSteps, failing, (house, [0, 2], 151)),
        (BadGuess, never, (house, [2, 0])),
    ]


def state(arguments):
    """What the arguments hold, in lists of its own."""
    return [copy.deepcopy(value) if type(value) in (list, tuple, int, str) else examples.fields(value)
            for value in arguments]


class NothingIsChangedTest(unittest.TestCase):
    def test_all_that_is_handed_in_stays_as_it_was(self):
        for call, arguments in some_calls():
            before = state(arguments)
            call(*arguments)
            self.assertEqual(state(arguments), before)

    def test_all_of_it_stays_as_it_was_behind_a_refusal(self):
        for error, call, arguments in refused_calls():
            before = state(arguments)
            with self.assertRaises(error):
                call(*arguments)
            self.assertEqual(state(arguments), before)

    def test_the_guess_and_the_house_stay_as_they_were(self):
        for house in examples.all_houses():
            before = examples.fields(house)
            for guess in examples.all_guesses(house):
                kept = list(guess)
                need_guess(house, guess)
                parts(house, guess)
                is_there(house, guess)
                for deed in range(len(house.deeds)):
                    behind(house, guess, deed)
                self.assertEqual(guess, kept)
                self.assertEqual(examples.fields(house), before)

    def test_they_stay_as_they_were_behind_a_refusal(self):
        house = examples.small_house()
        before = examples.fields(house)
        guess, wrong = [0, 2], [2, 0, 0]
        for call in (need_guess, parts, is_there):
            with self.assertRaises(BadGuess):
                call(house, wrong)
        with self.assertRaises(BadGuess):
            behind(house, wrong, 0)
        with self.assertRaises(BadDeed):
            behind(house, guess, 2)
        self.assertEqual((guess, wrong), ([0, 2], [2, 0, 0]))
        self.assertEqual(examples.fields(house), before)


class EachListIsNewTest(unittest.TestCase):
    def test_a_told_list_that_is_changed_changes_nothing_else(self):
        for call, arguments in some_calls():
            before = state(arguments)
            told = call(*arguments)
            kept = copy.deepcopy(told)
            spoil(told)
            self.assertEqual(state(arguments), before)
            self.assertEqual(call(*arguments), kept)

    def test_no_told_list_is_one_that_was_handed_in_or_stands_twice(self):
        for call, arguments in some_calls():
            handed = lists_in(arguments)
            for value in arguments:
                if type(value) is not int and hasattr(value, "looks"):
                    handed += lists_in([value.looks, value.deeds, value.wished])
            told = lists_in(call(*arguments))
            self.assertEqual(len({id(some) for some in told}), len(told))
            self.assertFalse({id(some) for some in told} & {id(some) for some in handed})

    def test_a_plan_or_turns_changed_later_change_nothing_told(self):
        house, plan, turns = examples.small_house(), examples.small_plan(), [0]
        told, text = gone(house, plan, 0, turns), written(plan)
        spoil(plan)
        spoil(turns)
        self.assertEqual((told, text), ([0, 1], "begin 5:0\n0 0:1 9:1\nthere\n"))

    def test_changed_parts(self):
        for house in examples.all_houses():
            before = examples.fields(house)
            for guess in examples.all_guesses(house):
                kept = list(guess)
                told = parts(house, guess)
                again = parts(house, guess)
                for _, rooms in told:
                    rooms.append(99)
                told.clear()
                self.assertEqual(guess, kept)
                self.assertEqual(parts(house, guess), again)
                self.assertEqual(examples.fields(house), before)

    def test_changed_guess_behind_a_deed(self):
        for house in examples.all_houses():
            before = examples.fields(house)
            for guess in examples.all_guesses(house):
                for deed in range(len(house.deeds)):
                    told = behind(house, guess, deed)
                    kept = list(told)
                    told.append(99)
                    self.assertEqual(behind(house, guess, deed), kept)
                    self.assertEqual(examples.fields(house), before)

    def test_a_guess_that_is_changed_later_changes_nothing_told(self):
        house = examples.small_house()
        guess = [0, 2]
        told, ahead = parts(house, guess), behind(house, guess, 1)
        guess.append(3)
        self.assertEqual(told, [(5, [0, 2])])
        self.assertEqual(ahead, [0, 1, 2, 3])


class NoClockTest(unittest.TestCase):
    def test_imports_come_from_the_package_or_are_pure(self):
        for tree in trees():
            for node in ast.walk(tree):
                self.assertNotIsInstance(node, ast.Import)
                if isinstance(node, ast.ImportFrom):
                    self.assertEqual(node.level, 0)
                    top = node.module.split(".")[0]
                    self.assertIn(top, PURE + ["blindplan", "__future__"])

    def test_no_file_is_opened_and_nothing_is_printed(self):
        self.assertTrue(trees())
        for tree in trees():
            for node in ast.walk(tree):
                if isinstance(node, ast.Name):
                    self.assertNotIn(node.id, BARRED)


if __name__ == "__main__":
    unittest.main()
