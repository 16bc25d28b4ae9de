"""Points 9, 10 and 11: the least steps, plans with them, and what shows that none leads."""

import inspect
import unittest

from blindplan import search
from blindplan.errors import BadGuess, BadSteps, HouseError
from blindplan.houses import House
from blindplan.plans import leads, need_plan
from blindplan.search import failing, least, never, planned
from tests import examples, slow

EIGHT = [0, 1, 2, 3, 4, 5, 6, 7]


def small_houses():
    """Houses that the slow search can try, with each of their guesses."""
    houses = slow.some_houses(150, 4, 3, 3, 3) + slow.some_houses(60, 5, 3, 1, 4)
    houses += [examples.small_house(), examples.lone_house(), House([1], [[[0]]], [0])]
    return [(house, examples.all_guesses(house)) for house in houses]


def great_houses():
    return [examples.full_house(), examples.long_house(), examples.closed_house()]


class SearchCase(unittest.TestCase):
    """The rules of the points 9, 10 and 11 for what is told."""

    def check_plan(self, house, guess, plan, steps):
        if steps is None:
            self.assertIsNone(plan)
        else:
            self.assertIs(type(plan), tuple)
            self.assertIs(need_plan(house, plan), True)
            self.assertEqual(leads(house, guess, plan), steps)

    def check_guesses(self, house, told):
        """Guesses with some room that is not wished, none twice."""
        self.assertIs(type(told), list)
        right = examples.all_guesses(house)
        for guess in told:
            self.assertIs(type(guess), list)
            self.assertIn(guess, right)
            self.assertFalse(set(guess) <= set(house.wished))
        self.assertEqual(len({tuple(guess) for guess in told}), len(told))

    def check_stuck(self, house, guess, lists):
        """Whichever deed is done in the guess, one of the parts behind it is in the lists."""
        for deed in range(len(house.deeds)):
            self.check_part(house, slow.all_behind(house, guess, deed), lists)

    def check_part(self, house, guess, lists):
        self.assertTrue(any(tuple(part) in lists for part in slow.parts_of(house, guess)))

    def check_failing(self, house, guess, steps, told):
        self.assertIs(type(told), list)
        self.assertEqual(len(told), steps + 1)
        ahead = None
        for some in told:
            self.check_guesses(house, some)
            self.assertGreater(len(some), 0)
            if ahead is not None:
                for rooms in some:
                    self.check_stuck(house, rooms, ahead)
            ahead = {tuple(rooms) for rooms in some}
        self.check_part(house, guess, ahead)

    def check_never(self, house, guess, told):
        self.check_guesses(house, told)
        members = {tuple(rooms) for rooms in told}
        for rooms in told:
            self.check_stuck(house, rooms, members)
        self.check_part(house, guess, members)

    def check_all(self, house, guess, steps):
        """All that is told of the guess where its least steps are these."""
        self.assertEqual(least(house, guess), steps)
        self.check_plan(house, guess, planned(house, guess), steps)
        told = never(house, guess)
        if steps is None:
            self.check_never(house, guess, told)
        else:
            self.assertIsNone(told)

    def refuses(self, error, call, *told):
        for wider in (error, HouseError, ValueError):
            with self.assertRaises(wider):
                call(*told)


class LeastTest(SearchCase):
    def test_some_guesses(self):
        house = examples.small_house()
        self.assertEqual(least(house, [1]), 0)
        self.assertEqual(least(house, [1, 3]), 0)
        self.assertEqual(least(house, [0]), 1)
        self.assertEqual(least(house, [0, 2]), 1)
        self.assertEqual(least(house, [0, 1, 2, 3]), 1)
        self.assertIsNone(least(examples.lone_house(), [0]))

    def test_what_is_seen_at_first_helps(self):
        deeds = [[[2], [3], [2], [3]], [[3], [2], [2], [3]]]
        apart, alike = House([0, 1, 2, 2], deeds, [2]), House([0, 0, 2, 2], deeds, [2])
        self.assertEqual(least(apart, [0, 1]), 1)
        self.assertIsNone(least(alike, [0, 1]))
        self.assertEqual((least(alike, [0]), least(alike, [1])), (1, 1))

    def test_what_is_seen_behind_a_deed_helps(self):
        deeds = [[[1, 2], [1], [2], [3]], [[0], [3], [0], [3]], [[0], [0], [3], [3]]]
        apart, alike = House([0, 1, 2, 3], deeds, [3]), House([0, 1, 1, 3], deeds, [3])
        self.assertEqual(least(apart, [0]), 2)
        self.assertEqual(least(apart, [0, 1, 2, 3]), 2)
        self.assertIsNone(least(alike, [0]))

    def test_a_deed_that_may_lead_back_for_ever_does_not_surely_lead(self):
        self.assertIsNone(least(House([0, 1], [[[0, 1], [1]]], [1]), [0]))
        self.assertEqual(least(House([0, 1], [[[0, 1], [1]], [[1], [1]]], [1]), [0]), 1)

    def test_to_be_there_one_has_to_know_it(self):
        house = House([0, 0], [[[1], [0]]], [1])
        self.assertEqual((least(house, [0]), least(house, [1])), (1, 0))
        self.assertIsNone(least(house, [0, 1]))

    def test_small_houses_against_a_slow_search(self):
        told = []
        for house, guesses in small_houses():
            for guess in guesses:
                told.append(slow.slow_least(house, guess))
                self.assertEqual(least(house, guess), told[-1])
        for steps in (None, 0, 1, 2, 3):
            self.assertIn(steps, told)

    def test_small_houses_against_all_plans_of_three_rows(self):
        for house in slow.some_houses(9, 3, 2, 2, 5):
            plans = slow.plans_of_three_rows(house)
            for guess in examples.all_guesses(house)[-2:]:
                steps = [leads(house, guess, plan) for plan in plans]
                steps = [number for number in steps if number is not None]
                fewest = least(house, guess)
                if steps:
                    self.assertIsNotNone(fewest)
                    self.assertLessEqual(fewest, min(steps))
                if fewest is not None and fewest <= 1:
                    self.assertEqual(min(steps), fewest)

    def test_the_longest_way(self):
        house = examples.long_house()
        self.assertEqual(least(house, EIGHT), 250)
        self.assertEqual(least(house, [1, 2, 5, 7]), 149)
        self.assertEqual(least(house, [0, 1, 4, 6]), 150)
        self.assertEqual(least(house, [2, 3, 4, 7]), 151)

    def test_what_is_no_guess(self):
        for house in examples.all_houses():
            for wrong in examples.no_guesses(house):
                self.refuses(BadGuess, least, house, wrong)


class PlannedTest(SearchCase):
    def test_small_houses(self):
        for house, guesses in small_houses():
            for guess in guesses:
                steps = slow.slow_least(house, guess)
                plan = planned(house, guess)
                self.check_plan(house, guess, plan, steps)
                if steps is not None and steps <= 5:
                    self.assertEqual(slow.slow_leads(house, guess, plan), steps)

    def test_great_houses(self):
        for house in great_houses():
            for guess in examples.all_guesses(house)[::30] + [EIGHT]:
                self.check_plan(house, guess, planned(house, guess), least(house, guess))

    def test_the_longest_way(self):
        house = examples.long_house()
        plan = planned(house, EIGHT)
        self.assertEqual(leads(house, EIGHT, plan), 250)
        self.assertLessEqual(len(plan[1]), 300)

    def test_no_plan_leads(self):
        self.assertIsNone(planned(examples.lone_house(), [0]))
        self.assertIsNone(planned(examples.closed_house(), [3]))

    def test_what_is_no_guess(self):
        for house in examples.all_houses():
            for wrong in examples.no_guesses(house):
                self.refuses(BadGuess, planned, house, wrong)


class FailingTest(SearchCase):
    def check_steps(self, house, guess, fewest, steps):
        told = failing(house, guess, steps)
        if fewest is not None and fewest <= steps:
            self.assertIsNone(told)
        else:
            self.check_failing(house, guess, steps, told)

    def test_small_houses(self):
        for house, guesses in small_houses():
            for guess in guesses:
                fewest = slow.slow_least(house, guess)
                for steps in range(5):
                    self.check_steps(house, guess, fewest, steps)

    def test_no_step(self):
        house = examples.small_house()
        self.assertIsNone(failing(house, [1, 3], 0))
        self.check_failing(house, [0, 1], 0, failing(house, [0, 1], 0))
        self.assertIsNone(failing(house, [0, 1], 1))
        self.assertEqual(failing(examples.lone_house(), [0], 0), [[[0]]])
        self.assertEqual(failing(examples.lone_house(), [0], 2), [[[0]], [[0]], [[0]]])

    def test_great_houses(self):
        for house in great_houses():
            for guess in examples.all_guesses(house)[::90] + [EIGHT]:
                fewest = least(house, guess)
                for steps in (0, 1, 7, 150):
                    self.check_steps(house, guess, fewest, steps)

    def test_just_the_least_steps_and_one_fewer(self):
        house = examples.long_house()
        self.assertIsNone(failing(house, [1, 2, 5, 7], 149))
        self.assertIsNone(failing(house, [1, 2, 5, 7], 150))
        self.check_failing(house, [1, 2, 5, 7], 148, failing(house, [1, 2, 5, 7], 148))
        self.assertIsNone(failing(house, [0, 1, 4, 6], 150))
        self.check_failing(house, [0, 1, 4, 6], 149, failing(house, [0, 1, 4, 6], 149))
        self.check_failing(house, [2, 3, 4, 7], 150, failing(house, [2, 3, 4, 7], 150))

    def test_what_is_no_count_of_steps(self):
        for house in examples.all_houses():
            for wrong in examples.no_numbers() + [151, 152, 10 ** 40]:
                self.refuses(BadSteps, failing, house, [0], wrong)
        self.refuses(BadSteps, failing, examples.small_house(), [1, 3], 151)

    def test_what_is_no_guess_ahead_of_the_steps(self):
        for house in examples.all_houses():
            for wrong in examples.no_guesses(house):
                for steps in (0, 150, -1, 151, True, None, "0", examples.Hostile()):
                    self.refuses(BadGuess, failing, house, wrong, steps)


class NeverTest(SearchCase):
    def test_small_houses(self):
        for house, guesses in small_houses():
            for guess in guesses:
                self.check_all(house, guess, slow.slow_least(house, guess))

    def test_great_houses(self):
        for house in great_houses():
            for guess in examples.all_guesses(house)[::30] + [EIGHT]:
                self.check_all(house, guess, least(house, guess))

    def test_some_guesses(self):
        self.assertEqual(never(examples.lone_house(), [0]), [[0]])
        self.assertEqual(never(House([0, 0], [[[1], [0]]], [1]), [0, 1]), [[0, 1]])
        self.assertIsNone(never(examples.small_house(), [0, 1, 2, 3]))
        self.assertIsNone(never(examples.small_house(), [1, 3]))

    def test_what_is_no_guess(self):
        for house in examples.all_houses():
            for wrong in examples.no_guesses(house):
                self.refuses(BadGuess, never, house, wrong)


class InterfaceTest(unittest.TestCase):
    def test_each_function_stands_in_its_file_with_its_arguments(self):
        listed = {
            "least": ["house", "guess"], "planned": ["house", "guess"],
            "failing": ["house", "guess", "steps"], "never": ["house", "guess"],
        }
        for name, arguments in listed.items():
            function = getattr(search, name)
            self.assertEqual(function.__module__, "blindplan.search")
            self.assertEqual(list(inspect.signature(function).parameters), arguments)

    def test_arguments_by_name(self):
        house = examples.small_house()
        self.assertEqual(least(house=house, guess=[0, 2]), 1)
        self.assertEqual(leads(house, [0, 2], planned(house=house, guess=[0, 2])), 1)
        self.assertIsNone(failing(house=house, guess=[0, 2], steps=1))
        self.assertIsNone(never(house=house, guess=[0, 2]))


if __name__ == "__main__":
    unittest.main()
