"""Point 1: nothing handed in is changed, each told list is new, no clock, chance or files."""

import ast
import os
import unittest

from blindplan.errors import BadDeed, BadGuess
from blindplan.guesses import behind, is_there, need_guess, parts
from tests import examples

PACKAGE = os.path.join(os.path.dirname(os.path.dirname(os.path.abspath(__file__))), "blindplan")
PURE = ["heapq", "math", "itertools", "collections"]
BARRED = ["open", "input", "print", "hash", "id", "eval", "exec", "compile", "globals"]


def trees():
    """The parsed files of the package."""
    found = []
    for folder, _, names in os.walk(PACKAGE):
        for name in sorted(names):
            if name.endswith(".py"):
                with open(os.path.join(folder, name), encoding="utf-8") as file:
                    found.append(ast.parse(file.read()))
    return found


class NothingIsChangedTest(unittest.TestCase):
    def test_the_guess_and_the_house_stay_as_they_were(self):
        for house in examples.all_houses():
            before = examples.fields(house)
            for guess in examples.all_guesses(house):
                kept = list(guess)
                need_guess(house, guess)
                parts(house, guess)
                is_there(house, guess)
                for deed in range(len(house.deeds)):
                    behind(house, guess, deed)
                self.assertEqual(guess, kept)
                self.assertEqual(examples.fields(house), before)

    def test_they_stay_as_they_were_behind_a_refusal(self):
        house = examples.small_house()
        before = examples.fields(house)
        guess, wrong = [0, 2], [2, 0, 0]
        for call in (need_guess, parts, is_there):
            with self.assertRaises(BadGuess):
                call(house, wrong)
        with self.assertRaises(BadGuess):
            behind(house, wrong, 0)
        with self.assertRaises(BadDeed):
            behind(house, guess, 2)
        self.assertEqual((guess, wrong), ([0, 2], [2, 0, 0]))
        self.assertEqual(examples.fields(house), before)


class EachListIsNewTest(unittest.TestCase):
    def test_changed_parts(self):
        for house in examples.all_houses():
            before = examples.fields(house)
            for guess in examples.all_guesses(house):
                kept = list(guess)
                told = parts(house, guess)
                again = parts(house, guess)
                for _, rooms in told:
                    rooms.append(99)
                told.clear()
                self.assertEqual(guess, kept)
                self.assertEqual(parts(house, guess), again)
                self.assertEqual(examples.fields(house), before)

    def test_changed_guess_behind_a_deed(self):
        for house in examples.all_houses():
            before = examples.fields(house)
            for guess in examples.all_guesses(house):
                for deed in range(len(house.deeds)):
                    told = behind(house, guess, deed)
                    kept = list(told)
                    told.append(99)
                    self.assertEqual(behind(house, guess, deed), kept)
                    self.assertEqual(examples.fields(house), before)

    def test_a_guess_that_is_changed_later_changes_nothing_told(self):
        house = examples.small_house()
        guess = [0, 2]
        told, ahead = parts(house, guess), behind(house, guess, 1)
        guess.append(3)
        self.assertEqual(told, [(5, [0, 2])])
        self.assertEqual(ahead, [0, 1, 2, 3])


class NoClockTest(unittest.TestCase):
    def test_imports_come_from_the_package_or_are_pure(self):
        for tree in trees():
            for node in ast.walk(tree):
                self.assertNotIsInstance(node, ast.Import)
                if isinstance(node, ast.ImportFrom):
                    self.assertEqual(node.level, 0)
                    top = node.module.split(".")[0]
                    self.assertIn(top, PURE + ["blindplan", "__future__"])

    def test_no_file_is_opened_and_nothing_is_printed(self):
        self.assertTrue(trees())
        for tree in trees():
            for node in ast.walk(tree):
                if isinstance(node, ast.Name):
                    self.assertNotIn(node.id, BARRED)


if __name__ == "__main__":
    unittest.main()
