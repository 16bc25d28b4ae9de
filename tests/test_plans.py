"""Points 6, 7 and 8: what a plan is, whether it leads, and walks by it."""

import copy
import inspect
import unittest
from itertools import product
from random import Random

from blindplan import plans
from blindplan.errors import BadGuess, BadPlan, HouseError, NoWay
from blindplan.guesses import is_there
from blindplan.houses import House
from blindplan.plans import gone, leads, need_plan
from tests import examples, slow

THERE = examples.THERE


class NeedPlanTest(unittest.TestCase):
    def taken(self, house, plan):
        kept = copy.deepcopy(plan)
        self.assertIs(need_plan(house, plan), True)
        self.assertEqual(plan, kept)

    def refused(self, house, plan):
        for error in (BadPlan, HouseError, ValueError):
            with self.assertRaises(error):
                need_plan(house, plan)

    def test_plans_of_few_and_of_most_rows(self):
        house = examples.lone_house()
        self.taken(house, ([], []))
        self.taken(house, ([], [THERE]))
        self.taken(house, ([(0, 0)], [THERE]))
        for many in (1, 2, 3, 299, 300):
            self.taken(house, examples.row_of_deeds(many))
            self.taken(house, ([], [(None, []) for _ in range(many)]))
            self.taken(house, ([(9, many - 1)], [(0, []) for _ in range(many)]))

    def test_more_than_300_rows(self):
        house = examples.lone_house()
        for many in (301, 302, 1000):
            self.refused(house, examples.row_of_deeds(many))
            self.refused(house, ([], [(None, []) for _ in range(many)]))
            self.refused(house, ([(9, 0)], [(0, []) for _ in range(many)]))

    def test_ways_lead_to_rows_behind_alone(self):
        house = examples.small_house()
        for place in range(4):
            for way in range(-2, 7):
                rows = [(1, []) for _ in range(4)]
                rows[place] = (0, [(3, way)])
                if place < way < 4:
                    self.taken(house, ([], rows))
                else:
                    self.refused(house, ([], rows))

    def test_the_ways_of_the_plan_lead_to_each_row(self):
        house = examples.small_house()
        for way in range(-3, 7):
            plan = ([(3, way)], [THERE, (0, []), THERE])
            if 0 <= way < 3:
                self.taken(house, plan)
            else:
                self.refused(house, plan)

    def test_looks_from_0_to_9(self):
        house = examples.small_house()
        for look in range(-2, 13):
            for plan in (([(look, 0)], [THERE]), ([], [(0, [(look, 1)]), THERE])):
                if 0 <= look <= 9:
                    self.taken(house, plan)
                else:
                    self.refused(house, plan)

    def test_looks_rise_and_none_stands_twice(self):
        house = examples.small_house()
        for looks in product((0, 1, 5, 9), repeat=3):
            ways = [(look, 1) for look in looks]
            for plan in ((ways, [THERE, THERE]), ([], [(0, ways), THERE])):
                if looks[0] < looks[1] < looks[2]:
                    self.taken(house, plan)
                else:
                    self.refused(house, plan)
        self.taken(house, ([(look, 9 - look) for look in range(10)], [THERE] * 10))
        self.refused(house, ([(look, 0) for look in range(11)], [THERE] * 10))

    def test_the_deeds_are_those_of_the_house(self):
        for house in examples.all_houses():
            many = len(house.deeds)
            for deed in range(-3, 8):
                for ways in ([], [(0, 1)]):
                    if 0 <= deed < many:
                        self.taken(house, ([], [(deed, ways), THERE]))
                    else:
                        self.refused(house, ([], [(deed, ways), THERE]))

    def test_what_is_no_deed(self):
        house = examples.full_house()
        for value in examples.no_numbers():
            self.refused(house, ([], [(value, [(0, 1)]), THERE]))
            if value is not None:
                self.refused(house, ([], [(value, []), THERE]))

    def test_where_nothing_more_is_done_there_are_no_ways(self):
        house = examples.small_house()
        self.taken(house, ([(0, 0)], [(None, []), THERE]))
        self.refused(house, ([(0, 0)], [(None, [(0, 1)]), THERE]))
        self.refused(house, ([(0, 0)], [(None, ()), THERE]))
        self.refused(house, ([(0, 0)], [(None, None), THERE]))
        self.refused(house, ([(0, 0)], [(None,), THERE]))

    def test_lists_in_the_place_of_tuples_and_tuples_in_the_place_of_lists(self):
        house = examples.small_house()
        self.taken(house, ([(0, 0)], [(0, [(0, 1)]), (None, [])]))
        self.refused(house, [[(0, 0)], [(0, [(0, 1)]), (None, [])]])
        self.refused(house, (((0, 0),), [(0, [(0, 1)]), (None, [])]))
        self.refused(house, ([[0, 0]], [(0, [(0, 1)]), (None, [])]))
        self.refused(house, ([(0, 0)], ((0, [(0, 1)]), (None, []))))
        self.refused(house, ([(0, 0)], [[0, [(0, 1)]], (None, [])]))
        self.refused(house, ([(0, 0)], [(0, ((0, 1),)), (None, [])]))
        self.refused(house, ([(0, 0)], [(0, [[0, 1]]), (None, [])]))
        self.refused(house, ([(0, 0)], [(0, [(0, 1)]), [None, []]]))

    def test_all_else_is_refused(self):
        for house in examples.all_houses():
            for number, wrong in enumerate(examples.no_plans(house)):
                with self.subTest(number):
                    self.refused(house, wrong)


class LeadsTest(unittest.TestCase):
    def test_a_plan_that_leads(self):
        house, plan = examples.small_house(), examples.small_plan()
        for guess in ([0], [2], [0, 2]):
            self.assertEqual(leads(house, guess, plan), 1)

    def test_a_look_without_a_way_at_first(self):
        house, plan = examples.small_house(), examples.small_plan()
        for guess in ([1], [3], [0, 1], [1, 2, 3], [0, 1, 2, 3]):
            self.assertIsNone(leads(house, guess, plan))
        for guess in ([0], [0, 1, 2, 3]):
            self.assertIsNone(leads(house, guess, ([], [])))
            self.assertIsNone(leads(house, guess, ([], [THERE])))

    def test_a_look_without_a_way_behind_a_deed(self):
        house = examples.small_house()
        plan = ([(5, 0)], [(0, [(0, 1)]), THERE])
        self.assertEqual(leads(house, [0], plan), 1)
        self.assertIsNone(leads(house, [2], plan))
        self.assertIsNone(leads(house, [0, 2], plan))
        self.assertIsNone(leads(house, [0], ([(5, 0)], [(0, [])])))

    def test_an_end_in_a_room_that_is_not_wished(self):
        house = examples.small_house()
        self.assertIsNone(leads(house, [0], ([(5, 0)], [THERE])))
        self.assertIsNone(leads(house, [0, 1], ([(0, 0), (5, 0)], [THERE])))
        self.assertIsNone(leads(house, [1], ([(0, 0)], [(0, [(5, 1)]), THERE])))

    def test_a_deed_that_leads_to_several_rooms(self):
        house = House([0, 1, 2, 3], [[[1, 2], [3], [1], [3]]], [3])
        rows = [(0, [(1, 2), (2, 1)]), (0, [(1, 2)]), (0, [(3, 3)]), THERE]
        plan = ([(0, 0), (1, 2), (2, 1)], rows)
        self.assertEqual(leads(house, [0], plan), 3)
        self.assertEqual(leads(house, [1], plan), 1)
        self.assertEqual(leads(house, [1, 2], plan), 2)
        self.assertEqual(leads(house, [0, 1, 2], plan), 3)
        rows[0] = (0, [(1, 2)])
        self.assertIsNone(leads(house, [0], plan))
        self.assertEqual(leads(house, [1, 2], plan), 2)

    def test_two_rooms_that_come_to_one_row(self):
        house = examples.room_line()
        rows = [(0, [(1, 1)]), (0, [(2, 2)]), (0, [(4, 4), (5, 3)]), (0, [(4, 4)]), THERE]
        plan = ([(0, 0), (3, 2)], rows)
        self.assertEqual(leads(house, [0], plan), 3)
        self.assertEqual(leads(house, [3], plan), 2)
        self.assertEqual(leads(house, [0, 3], plan), 3)
        rows[2] = (0, [(4, 4)])
        self.assertEqual(leads(house, [0], plan), 3)
        self.assertIsNone(leads(house, [3], plan))
        self.assertIsNone(leads(house, [0, 3], plan))

    def test_one_row_behind_more_deeds_and_behind_fewer(self):
        house = examples.room_line()
        plan = ([(0, 0), (1, 1), (2, 2)], [(0, [(1, 1)]), (0, [(2, 2)]), (0, [(4, 3)]), THERE])
        self.assertEqual([leads(house, [room], plan) for room in range(3)], [3, 2, 1])
        self.assertEqual(leads(house, [1, 2], plan), 2)
        self.assertEqual(leads(house, [0, 1, 2], plan), 3)

    def test_ways_for_looks_never_seen_and_rows_to_which_nobody_comes(self):
        house = examples.small_house()
        ways = [(look, 1) for look in range(10)]
        rows = [(1, []), (0, [(look, 4) for look in (0, 1, 2, 7, 8, 9)]), (1, [(0, 3)]), (0, []), THERE]
        self.assertEqual(leads(house, [0, 2], (ways, rows)), 1)
        self.assertEqual(leads(house, [0], (ways, rows)), 1)
        self.assertIsNone(leads(house, [0, 1], (ways, rows)))

    def test_a_guess_that_is_there_at_once(self):
        house = examples.small_house()
        self.assertEqual(leads(house, [1, 3], ([(0, 0), (9, 0)], [THERE])), 0)
        self.assertEqual(leads(house, [1], ([(0, 0)], [THERE])), 0)
        self.assertEqual(leads(house, [1], ([(0, 0)], [(1, [(0, 1)]), THERE])), 1)
        self.assertEqual(leads(house, [1, 3], ([(0, 0), (9, 1)], [(1, [(0, 1)]), THERE])), 1)

    def test_the_most_rows(self):
        house = House([0, 0], [[[1], [0]]], [1])
        for many in (2, 3, 299, 300):
            plan = examples.row_of_deeds(many)
            for room in range(2):
                steps = many - 1 if (many - 1 + room) % 2 == 1 else None
                self.assertEqual(leads(house, [room], plan), steps)
            self.assertIsNone(leads(house, [0, 1], plan))

    def test_small_plans_against_all_their_walks(self):
        chance, told = Random(7), []
        for house in slow.some_houses(60, 5, 3, 3, 1):
            guesses = examples.all_guesses(house)
            for _ in range(30):
                plan = slow.some_plan(chance, house, 5)
                guess = chance.choice(guesses)
                told.append(leads(house, guess, plan))
                self.assertEqual(told[-1], slow.slow_leads(house, guess, plan))
        for steps in (None, 0, 1, 2):
            self.assertIn(steps, told)

    def test_a_bad_guess_ahead_of_the_plan(self):
        house = examples.small_house()
        for wrong in examples.no_guesses(house):
            for plan in (examples.small_plan(), ([], [THERE, None]), None, examples.Hostile()):
                for error in (BadGuess, HouseError, ValueError):
                    with self.assertRaises(error):
                        leads(house, wrong, plan)

    def test_a_bad_plan(self):
        for house in examples.all_houses():
            for wrong in examples.no_plans(house):
                with self.assertRaises(BadPlan):
                    leads(house, [0], wrong)


class GoneTest(unittest.TestCase):
    def setUp(self):
        # From room 0 to one of three rooms, then to one alone, then to one of two.
        self.house = House([0, 1, 1, 1, 2, 3],
                           [[[1, 2, 3], [4], [4], [4], [0, 5], [5]]], [5])
        self.plan = ([(0, 0), (3, 3)], [(0, [(1, 1)]), (0, [(2, 2)]), (0, [(0, 3), (3, 3)]), THERE])

    def test_no_turns(self):
        self.assertEqual(gone(self.house, self.plan, 0, []), [0, 1, 4, 0])

    def test_too_few_turns(self):
        self.assertEqual(gone(self.house, self.plan, 0, [1]), [0, 2, 4, 0])
        self.assertEqual(gone(self.house, self.plan, 0, [2, 1]), [0, 3, 4, 0])

    def test_a_deed_to_one_room_alone_takes_a_turn_too(self):
        self.assertEqual(gone(self.house, self.plan, 0, [0, 1, 0]), [0, 1, 4, 0])
        self.assertEqual(gone(self.house, self.plan, 0, [0, 0, 1]), [0, 1, 4, 5])
        self.assertEqual(gone(self.house, self.plan, 0, [2, 7, 1]), [0, 3, 4, 5])

    def test_too_many_turns(self):
        self.assertEqual(gone(self.house, self.plan, 0, [1, 0, 1, 1, 1, 1]), [0, 2, 4, 5])
        self.assertEqual(gone(self.house, self.plan, 0, list(range(50))), [0, 1, 4, 0])

    def test_great_and_negative_turns(self):
        for turn in range(-20, 21):
            rooms = gone(self.house, self.plan, 0, [turn, turn, turn])
            self.assertEqual(rooms, [0, [1, 2, 3][turn % 3], 4, [0, 5][turn % 2]])
        self.assertEqual(gone(self.house, self.plan, 0, [10 ** 40, 0, 10 ** 40 + 1]), [0, 2, 4, 5])
        self.assertEqual(gone(self.house, self.plan, 0, [-1, -1, -1]), [0, 3, 4, 5])
        self.assertEqual(gone(self.house, self.plan, 0, [-10 ** 40, 0, 0]), [0, 3, 4, 0])

    def test_nothing_is_done(self):
        self.assertEqual(gone(self.house, self.plan, 5, []), [5])
        self.assertEqual(gone(self.house, self.plan, 5, [1, 2]), [5])

    def test_the_room_need_not_be_wished(self):
        self.assertEqual(gone(self.house, ([(1, 0)], [THERE]), 2, [0]), [2])

    def test_no_way_at_first(self):
        for room in (1, 2, 3, 4):
            for error in (NoWay, HouseError, ValueError):
                with self.assertRaises(error):
                    gone(self.house, self.plan, room, [])
        with self.assertRaises(NoWay):
            gone(self.house, ([], []), 0, [])

    def test_no_way_later(self):
        plan = ([(0, 0)], [(0, [(1, 1)]), (0, [(2, 2)]), (0, [(3, 3)]), THERE])
        self.assertEqual(gone(self.house, plan, 0, [0, 0, 1]), [0, 1, 4, 5])
        for turns in ([], [0, 0, 0], [1, 1], [0, 0, 2]):
            with self.assertRaises(NoWay):
                gone(self.house, plan, 0, turns)
        with self.assertRaises(NoWay):
            gone(self.house, ([(0, 0)], [(0, [])]), 0, [])

    def test_all_walks_are_those_by_all_turns(self):
        chance, refused = Random(11), 0
        for house in slow.some_houses(40, 5, 3, 3, 2):
            for _ in range(10):
                plan = slow.some_plan(chance, house, 4)
                room = chance.randrange(len(house.looks))
                told = []
                for turns in product(range(3), repeat=3):
                    try:
                        told.append((gone(house, plan, room, list(turns)), True))
                    except NoWay:
                        refused += 1
                right = [run for run in slow.runs(house, plan, room) if run[1]]
                for run in right:
                    self.assertIn(run, told)
                for run in told:
                    self.assertIn(run, right)
        self.assertGreater(refused, 0)

    def test_a_plan_that_leads_is_gone_to_a_wished_room(self):
        house, plan = examples.room_line(), ([(0, 0)], [(0, [(1, 1)]), (0, [(2, 2)]), (0, [(4, 3)]), THERE])
        self.assertEqual(gone(house, plan, 0, [5, 5, 5]), [0, 1, 2, 4])
        self.assertIs(is_there(house, [gone(house, plan, 0, [])[-1]]), True)
        self.assertEqual(leads(house, [0], plan), 3)

    def test_what_is_no_room(self):
        for house in examples.all_houses():
            many = len(house.looks)
            plan = ([(look, 0) for look in range(10)], [THERE])
            for wrong in examples.no_numbers() + [many, many + 1, 10 ** 40]:
                for error in (BadGuess, HouseError, ValueError):
                    with self.assertRaises(error):
                        gone(house, plan, wrong, [])

    def test_a_bad_plan_ahead_of_the_room(self):
        house = examples.small_house()
        for wrong in examples.no_plans(house):
            for room in (0, -1, 4, True, False, None, "0", examples.Hostile()):
                with self.assertRaises(BadPlan):
                    gone(house, wrong, room, [])


class InterfaceTest(unittest.TestCase):
    def test_each_function_stands_in_its_file_with_its_arguments(self):
        listed = {
            "need_plan": ["house", "plan"], "leads": ["house", "guess", "plan"],
            "gone": ["house", "plan", "room", "turns"],
        }
        for name, arguments in listed.items():
            function = getattr(plans, name)
            self.assertEqual(function.__module__, "blindplan.plans")
            self.assertEqual(list(inspect.signature(function).parameters), arguments)

    def test_arguments_by_name(self):
        house, plan = examples.small_house(), examples.small_plan()
        self.assertIs(need_plan(house=house, plan=plan), True)
        self.assertEqual(leads(house=house, guess=[0, 2], plan=plan), 1)
        self.assertEqual(gone(house=house, plan=plan, room=0, turns=[]), [0, 1])


if __name__ == "__main__":
    unittest.main()
