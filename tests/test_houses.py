"""Point 2: what a house is, and that whatever is none is refused."""

import copy
import inspect
import unittest

from blindplan import houses
from blindplan.errors import BadHouse, HouseError
from blindplan.houses import House
from tests import examples


def stay(rooms):
    """A deed that leads nowhere else in a house of so many rooms."""
    return [[room] for room in range(rooms)]


class HouseTest(unittest.TestCase):
    def refused(self, looks, deeds, wished):
        for error in (BadHouse, HouseError, ValueError):
            with self.assertRaises(error):
                House(looks, deeds, wished)

    def all_refused(self, triples):
        for number, (looks, deeds, wished) in enumerate(triples):
            with self.subTest(number):
                self.refused(looks, deeds, wished)

    def taken(self, looks, deeds, wished):
        kept = copy.deepcopy((looks, deeds, wished))
        house = House(looks, deeds, wished)
        self.assertEqual((house.looks, house.deeds, house.wished), kept)
        self.assertEqual((looks, deeds, wished), kept)

    def test_the_class_stands_in_its_file_with_its_arguments(self):
        self.assertEqual(House.__module__, "blindplan.houses")
        self.assertIs(houses.House, House)
        self.assertEqual(list(inspect.signature(House).parameters), ["looks", "deeds", "wished"])
        house = House(looks=[3], deeds=[[[0]]], wished=[0])
        self.assertEqual((house.looks, house.deeds, house.wished), ([3], [[[0]]], [0]))

    def test_one_to_eight_rooms(self):
        for rooms in range(1, 9):
            self.taken([4] * rooms, [stay(rooms)], [])

    def test_no_room_and_more_than_eight(self):
        for rooms in (0, 9, 10, 100):
            self.refused([4] * rooms, [stay(rooms)], [])

    def test_looks_from_0_to_9(self):
        for look in range(10):
            self.taken([look], [[[0]]], [])
            self.taken([0, look], [stay(2)], [])

    def test_looks_outside(self):
        for look in (-1, 10, 11, -10 ** 40, 10 ** 40):
            self.refused([look], [[[0]]], [])
            self.refused([0, look], [stay(2)], [])
            self.refused([look, 0], [stay(2)], [])

    def test_one_to_five_deeds(self):
        for many in range(1, 6):
            self.taken([1, 2, 1], [stay(3)] * many, [])

    def test_no_deed_and_more_than_five(self):
        for many in (0, 6, 7, 50):
            self.refused([1, 2, 1], [stay(3)] * many, [])

    def test_a_deed_has_an_entry_for_each_room(self):
        for many in (0, 1, 2, 4, 9):
            self.refused([1, 2, 1], [[[0]] * many], [])
            self.refused([1, 2, 1], [stay(3), [[0]] * many], [])

    def test_each_rising_entry_is_taken(self):
        for entry in examples.all_guesses(examples.small_house()):
            self.taken([1, 2, 1, 2], [stay(4), [entry, [3], entry, [0]]], [])
        self.taken([0] * 8, [[list(range(8))] * 8], [])

    def test_wrong_entries(self):
        for entry in ([], [1, 0], [0, 2, 1], [0, 0], [0, 1, 1], [3], [0, 3], [-1], [-1, 0],
                      [0, 1, 2, 3], [10 ** 40]):
            with self.subTest(entry):
                self.refused([1, 2, 1], [[entry, [0], [0]]], [])
                self.refused([1, 2, 1], [[[0], [0], entry]], [])
                self.refused([1, 2, 1], [stay(3), [[0], entry, [0]]], [])

    def test_wished_rooms(self):
        self.taken([1, 2, 1, 2], [stay(4)], [])
        for wished in examples.all_guesses(examples.small_house()):
            self.taken([1, 2, 1, 2], [stay(4)], wished)
        self.taken([0] * 8, [stay(8)], list(range(8)))

    def test_wrong_wished_rooms(self):
        for wished in ([1, 0], [0, 2, 1], [0, 0], [0, 1, 1], [3], [0, 3], [-1], [-1, 0],
                       [0, 1, 2, 3], [10 ** 40]):
            with self.subTest(wished):
                self.refused([1, 2, 1], [stay(3)], wished)

    def test_what_is_no_list_in_the_place_of_each(self):
        for place in range(3):
            triples = []
            for value in examples.no_lists() + [examples.looped()]:
                triple = [[1], [[[0]]], [0]]
                triple[place] = value
                triples.append(triple)
            self.all_refused(triples)

    def test_what_is_no_list_in_all_three_places(self):
        self.all_refused([value, value, value] for value in examples.no_lists())

    def test_what_is_no_number_in_the_lists(self):
        for value in examples.no_numbers():
            self.all_refused([
                ([value], [[[0]]], [0]),
                ([0, value], [stay(2)], [0]),
                ([0, 0], [[[0], [value]]], [0]),
                ([0, 0], [[[0], [0, value]]], [0]),
                ([0, 0], [stay(2)], [value]),
                ([0, 0], [stay(2)], [0, value]),
            ])

    def test_what_is_no_list_among_the_deeds(self):
        for value in examples.no_lists() + [examples.looped()]:
            self.all_refused([
                ([0], [value], [0]),
                ([0, 0], [stay(2), value], [0]),
                ([0], [[value]], [0]),
                ([0, 0], [[[0], value]], [0]),
            ])

    def test_lists_nested_too_deep_or_not_deep_enough(self):
        self.all_refused([
            ([[0]], [[[0]]], [0]), ([0], [[[[0]]]], [0]), ([0], [[[0]]], [[0]]),
            ([0], [[0]], [0]), ([0], [0], [0]), ([], [], []), ([0], [], []), ([], [[]], []),
        ])

    def test_the_fields_are_lists_of_its_own(self):
        looks, entry, wished = [1, 2], [0, 1], [1]
        deed = [entry, entry]
        deeds = [deed, deed]
        house = House(looks, deeds, wished)
        looks[0] = 7
        looks.append(3)
        wished.insert(0, 0)
        entry.pop()
        deed.append([1])
        deeds.clear()
        self.assertEqual(house.looks, [1, 2])
        self.assertEqual(house.deeds, [[[0, 1], [0, 1]], [[0, 1], [0, 1]]])
        self.assertEqual(house.wished, [1])

    def test_changing_the_fields_changes_nothing_that_was_handed_in(self):
        looks, deeds, wished = [1, 2], [[[0, 1], [1]], [[0], [1]]], [1]
        house = House(looks, deeds, wished)
        house.looks.append(3)
        house.deeds[0][0].append(3)
        house.deeds[0].pop()
        house.deeds.pop()
        house.wished.clear()
        self.assertEqual((looks, deeds, wished), ([1, 2], [[[0, 1], [1]], [[0], [1]]], [1]))

    def test_two_houses_of_the_same_lists_share_none(self):
        looks, deeds, wished = [1, 2], [[[0, 1], [1]]], [1]
        one, two = House(looks, deeds, wished), House(looks, deeds, wished)
        one.looks[0] = 5
        one.deeds[0][0][0] = 1
        one.wished.append(0)
        self.assertEqual(examples.fields(two), ([1, 2], [[[0, 1], [1]]], [1]))

    def test_a_refusal_changes_nothing_that_was_handed_in(self):
        looks, deeds, wished = [1, 2], [[[0, 1], [1]], [[1], [1, 0]]], [1, 0]
        self.refused(looks, deeds, wished)
        self.assertEqual((looks, deeds, wished), ([1, 2], [[[0, 1], [1]], [[1], [1, 0]]], [1, 0]))


if __name__ == "__main__":
    unittest.main()
