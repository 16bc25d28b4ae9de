"""Points 3, 4 and 5: guesses, their parts, what is behind a deed, being there."""

import inspect
import unittest

from blindplan import guesses
from blindplan.errors import BadDeed, BadGuess, HouseError
from blindplan.guesses import behind, is_there, need_guess, parts
from blindplan.houses import House
from tests import examples


class NeedGuessTest(unittest.TestCase):
    def test_each_guess_is_one(self):
        for house in examples.all_houses():
            for guess in examples.all_guesses(house):
                self.assertIs(need_guess(house, guess), True)

    def test_all_else_is_refused(self):
        for house in examples.all_houses():
            for number, wrong in enumerate(examples.no_guesses(house)):
                with self.subTest(number):
                    for error in (BadGuess, HouseError, ValueError):
                        with self.assertRaises(error):
                            need_guess(house, wrong)

    def test_each_list_of_up_to_three_numbers(self):
        house = House([1, 1, 1], [[[0]] * 3], [])
        right = examples.all_guesses(house)
        numbers = range(-1, 5)
        lists = [[a] for a in numbers] + [[a, b] for a in numbers for b in numbers]
        lists += [[a, b, c] for a in numbers for b in numbers for c in numbers]
        for guess in lists:
            if guess in right:
                self.assertIs(need_guess(house, guess), True)
            else:
                with self.assertRaises(BadGuess):
                    need_guess(house, guess)

    def test_a_room_of_another_house_is_refused(self):
        self.assertIs(need_guess(examples.full_house(), [7]), True)
        with self.assertRaises(BadGuess):
            need_guess(examples.small_house(), [7])


class PartsTest(unittest.TestCase):
    def test_parts_of_some_guesses(self):
        house = examples.small_house()
        self.assertEqual(parts(house, [0, 1, 2, 3]), [(0, [1]), (5, [0, 2]), (9, [3])])
        self.assertEqual(parts(house, [0, 3]), [(5, [0]), (9, [3])])
        self.assertEqual(parts(house, [0, 2]), [(5, [0, 2])])
        self.assertEqual(parts(house, [3]), [(9, [3])])
        self.assertEqual(parts(examples.lone_house(), [0]), [(9, [0])])
        self.assertEqual(parts(examples.full_house(), [0, 1, 2, 3, 4, 5, 6, 7]),
                         [(0, [0, 3, 6]), (1, [7]), (3, [2, 5]), (9, [1, 4])])

    def test_parts_of_each_guess(self):
        for house in examples.all_houses():
            for guess in examples.all_guesses(house):
                self.needed(house, guess, parts(house, guess))

    def needed(self, house, guess, told):
        self.assertIs(type(told), list)
        looks = [look for look, _ in told]
        self.assertEqual(looks, sorted(set(house.looks[room] for room in guess)))
        self.assertEqual(sorted(room for _, rooms in told for room in rooms), guess)
        for pair in told:
            self.assertIs(type(pair), tuple)
            self.assertIs(type(pair[1]), list)
            self.assertEqual(pair[1], sorted(pair[1]))
            self.assertEqual({house.looks[room] for room in pair[1]}, {pair[0]})

    def test_what_is_no_guess_is_refused(self):
        for house in examples.all_houses():
            for wrong in examples.no_guesses(house):
                with self.assertRaises(BadGuess):
                    parts(house, wrong)


class BehindTest(unittest.TestCase):
    def test_behind_some_deeds(self):
        house = examples.small_house()
        self.assertEqual(behind(house, [0], 0), [1])
        self.assertEqual(behind(house, [3], 0), [0])
        self.assertEqual(behind(house, [2, 3], 0), [0, 3])
        self.assertEqual(behind(house, [0], 1), [0, 2])
        self.assertEqual(behind(house, [2], 1), [0, 1, 3])
        self.assertEqual(behind(house, [0, 1], 1), [0, 1, 2])
        self.assertEqual(behind(house, [0, 1, 2, 3], 1), [0, 1, 2, 3])

    def test_no_room_stands_twice_behind_a_deed(self):
        house = examples.full_house()
        self.assertEqual(behind(house, [0, 1, 2, 3, 4, 5, 6, 7], 1), [0, 7])
        self.assertEqual(behind(house, [3, 5], 1), [0, 7])
        self.assertEqual(behind(house, [2, 4], 2), [0, 1, 2, 3, 4])

    def test_behind_each_deed_from_each_guess(self):
        for house in examples.all_houses():
            for guess in examples.all_guesses(house):
                for deed in range(len(house.deeds)):
                    rooms = [room for room in range(len(house.looks))
                             if any(room in house.deeds[deed][start] for start in guess)]
                    told = behind(house, guess, deed)
                    self.assertEqual(told, rooms)
                    self.assertIs(type(told), list)
                    self.assertIs(need_guess(house, told), True)

    def test_what_is_no_deed_is_refused(self):
        for house in examples.all_houses():
            many = len(house.deeds)
            for wrong in examples.no_numbers() + [many, many + 1, 10 ** 40]:
                for error in (BadDeed, HouseError, ValueError):
                    with self.assertRaises(error):
                        behind(house, [0], wrong)

    def test_what_is_no_guess_is_refused(self):
        for house in examples.all_houses():
            for wrong in examples.no_guesses(house):
                with self.assertRaises(BadGuess):
                    behind(house, wrong, 0)

    def test_the_guess_is_refused_ahead_of_the_deed(self):
        house = examples.small_house()
        for wrong in examples.no_guesses(house):
            for deed in (-1, 2, True, None, "0", [0], examples.Hostile()):
                with self.assertRaises(BadGuess):
                    behind(house, wrong, deed)


class IsThereTest(unittest.TestCase):
    def test_some_guesses(self):
        house = examples.small_house()
        self.assertIs(is_there(house, [1]), True)
        self.assertIs(is_there(house, [1, 3]), True)
        self.assertIs(is_there(house, [0]), False)
        self.assertIs(is_there(house, [0, 1]), False)
        self.assertIs(is_there(house, [1, 2, 3]), False)
        self.assertIs(is_there(house, [2, 3]), False)

    def test_each_guess(self):
        for house in examples.all_houses():
            for guess in examples.all_guesses(house):
                self.assertIs(is_there(house, guess), set(guess) <= set(house.wished))

    def test_with_no_room_and_with_all_rooms_wished(self):
        stay = [[[0], [1], [2]]]
        nowhere, anywhere = House([0, 1, 0], stay, []), House([0, 1, 0], stay, [0, 1, 2])
        for guess in examples.all_guesses(nowhere):
            self.assertIs(is_there(nowhere, guess), False)
            self.assertIs(is_there(anywhere, guess), True)

    def test_what_is_no_guess_is_refused(self):
        for house in examples.all_houses():
            for wrong in examples.no_guesses(house):
                with self.assertRaises(BadGuess):
                    is_there(house, wrong)


class InterfaceTest(unittest.TestCase):
    def test_each_function_stands_in_its_file_with_its_arguments(self):
        listed = {
            "need_guess": ["house", "guess"], "parts": ["house", "guess"],
            "behind": ["house", "guess", "deed"], "is_there": ["house", "guess"],
        }
        for name, arguments in listed.items():
            function = getattr(guesses, name)
            self.assertEqual(function.__module__, "blindplan.guesses")
            self.assertEqual(list(inspect.signature(function).parameters), arguments)

    def test_arguments_by_name(self):
        house = examples.small_house()
        self.assertIs(need_guess(house=house, guess=[0]), True)
        self.assertEqual(parts(house=house, guess=[0]), [(5, [0])])
        self.assertEqual(behind(house=house, guess=[0], deed=1), [0, 2])
        self.assertIs(is_there(house=house, guess=[0]), False)


if __name__ == "__main__":
    unittest.main()
