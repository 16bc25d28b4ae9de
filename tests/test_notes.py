"""Point 12: plans written as texts, and texts read to plans."""

import inspect
import unittest
from random import Random

from blindplan import notes
from blindplan.errors import BadText, HouseError
from blindplan.notes import read, written
from blindplan.search import planned
from tests import examples, slow

THERE = examples.THERE

TEXTS = {
    "begin\n": ([], []),
    "begin\nthere\n": ([], [THERE]),
    "begin 0:0\nthere\n": ([(0, 0)], [THERE]),
    "begin 0:1 4:0\n2 0:1\nthere\n": ([(0, 1), (4, 0)], [(2, [(0, 1)]), THERE]),
    "begin 9:2\n4\n0 1:2 3:2\nthere\n": ([(9, 2)], [(4, []), (0, [(1, 2), (3, 2)]), THERE]),
    "begin\n0\n1\n2\n3\n4\n": ([], [(deed, []) for deed in range(5)]),
    "begin\nthere\n3 7:2\nthere\n": ([], [THERE, (3, [(7, 2)]), THERE]),
}

WRONG = [
    # No rows, no begin, more than one.
    "", "\n", " ", "0", "there\n", "0\n", "\nbegin\n", "begin\nbegin\n", "Begin\n", "BEGIN\n",
    "begi\n", "begins\n", "0:0\n", "begin0:0\nthere\n", "there\nbegin\n",
    # Rows without a line feed, rows without anything.
    "begin", "begin 0:0", "begin 0:0\nthere", "begin 0:1 4:0\n2 0:1\nthere", "begin\n\n",
    "begin\n\nthere\n", "begin\nthere\n\n", "begin\nthere\n ", "begin\nthere\n0",
    # Blanks.
    "begin  0:0\nthere\n", "begin 0:0 \nthere\n", " begin 0:0\nthere\n", "begin \n", "begin \nthere\n",
    "begin 0:0\nthere \n", "begin 0:0\n there\n", "begin 0:0  1:0\nthere\n", "begin 0:0\n0  0:1\nthere\n",
    "begin 0:0\n0 0:1 \nthere\n", "begin 0:0\n 0 0:1\nthere\n", "begin 0:0\n0 \nthere\n",
    "begin 0: 0\nthere\n", "begin 0 :0\nthere\n", "begin 0 : 0\nthere\n", "begin\n \n", " \nbegin\n",
    # Other white space.
    "begin\t0:0\nthere\n", "begin 0:0\tthere\n", "begin 0:0\r\nthere\r\n", "begin 0:0\rthere\r",
    "begin 0:0\nthere\r\n", "begin\x0b", "begin\x0c", "begin\u2028there\n", "begin\x85there\n",
    "begin\u00a00:0\nthere\n", "begin\u30000:0\nthere\n", "begin 0:0\nthere\x0b\n", "begin\n\t0\n",
    "begin 0:\t0\nthere\n", "begin 0:0\x1cthere\n", "\ufeffbegin\n", "begin\x00\n",
    # Numbers.
    "begin 00:0\nthere\n", "begin 0:00\nthere\n", "begin 01:0\nthere\n", "begin 0:01\n0\nthere\n",
    "begin 0:0\n00 0:1\nthere\n", "begin 0:0\n01 0:1\nthere\n", "begin 0:000\nthere\n",
    "begin 0:0000\nthere\n", "begin 0:1000\nthere\n", "begin 0:0001\nthere\n0\n",
    "begin 1000:0\nthere\n", "begin\n1000\n", "begin\n0000\n", "begin +0:0\nthere\n",
    "begin 0:+0\nthere\n", "begin -0:0\nthere\n", "begin 0:-0\nthere\n", "begin -1:0\nthere\n",
    "begin 0:-1\nthere\n", "begin 0:0\n-1 0:1\nthere\n", "begin 0:0\n+1 0:1\nthere\n",
    "begin 0:0_0\nthere\n", "begin 0:0.0\nthere\n", "begin 0:0x0\nthere\n", "begin a:0\nthere\n",
    "begin 0:a\nthere\n", "begin 0:\u0660\nthere\n", "begin \u0661:0\nthere\n", "begin 0:\u00b2\n0\n0\n0\n",
    "begin\n\u0661\n", "begin\n\u00b2\n", "begin\n\uff11\n", "begin 0:\u0967\n0\nthere\n",
    "begin 0:" + "1" * 5000 + "\nthere\n", "begin\n" + "1" * 5000 + "\n",
    # Looks and deeds.
    "begin 10:0\nthere\n", "begin 11:0\nthere\n", "begin 100:0\nthere\n", "begin 0:0\n0 10:1\nthere\n",
    "begin 0:0\n5 0:1\nthere\n", "begin 0:0\n6\n", "begin\n5\n", "begin\n10\n", "begin\n999\n",
    # Ways.
    "begin 0\nthere\n", "begin :\nthere\n", "begin 0:\nthere\n", "begin :0\nthere\n",
    "begin 0:0:0\nthere\n", "begin 0::0\nthere\n", "begin 0;0\nthere\n", "begin 0,0\nthere\n",
    "begin 0:0,1:0\nthere\n", "begin (0,0)\nthere\n", "begin 1:0 0:0\nthere\n", "begin 0:0 0:0\nthere\n",
    "begin 0:0 2:0 1:0\nthere\n", "begin 0:0 0:1\nthere\nthere\n", "begin 0:0\n0 1:1 0:1\nthere\n",
    "begin 0:0\n0 0:1 0:1\nthere\n", "begin there\nthere\n", "begin begin\n",
    # Places.
    "begin 0:0\n", "begin 0:1\nthere\n", "begin 0:2\nthere\nthere\n", "begin 0:999\nthere\n",
    "begin 0:0\n0 0:0\n", "begin 0:0\n0 0:0\nthere\n", "begin 0:0\nthere\n0 0:0\n",
    "begin 0:0\nthere\n0 0:0\nthere\n", "begin 0:0\nthere\n0 0:1\nthere\n",
    "begin 0:0\n0 0:2\nthere\n", "begin 0:0\n0 0:1 1:0\nthere\n", "begin 0:0\n0 0:1 1:2\nthere\n",
    # Where nothing more is done there is no way.
    "begin 0:0\nthere 0:1\nthere\n", "begin 0:0\nThere\n", "begin 0:0\ntheres\n", "begin 0:0\nNone\n",
    "begin 0:0\nthere there\n", "begin 0:0\nbegin 0:1\nthere\n", "begin 0:0\n:\n", "begin 0:0\n0:1\nthere\n",
]


class WrittenTest(unittest.TestCase):
    def test_some_plans(self):
        for text, plan in TEXTS.items():
            with self.subTest(text):
                self.assertEqual(written(plan), text)
                self.assertIs(type(written(plan)), str)

    def test_places_of_one_to_three_figures(self):
        ways = [(0, 0), (1, 9), (2, 10), (3, 99), (4, 100), (5, 299)]
        text = written((ways, [THERE] * 300))
        self.assertEqual(text, "begin 0:0 1:9 2:10 3:99 4:100 5:299\n" + "there\n" * 300)


class ReadTest(unittest.TestCase):
    def refused(self, text):
        for error in (BadText, HouseError, ValueError):
            with self.assertRaises(error):
                read(text)

    def check_same(self, plan):
        text = written(plan)
        told = read(text)
        self.assertEqual(told, plan)
        self.assertEqual(written(told), text)

    def test_some_texts(self):
        for text, plan in TEXTS.items():
            with self.subTest(text):
                told = read(text)
                self.assertEqual(told, plan)
                self.check_kinds(told)

    def check_kinds(self, plan):
        """Tuples and lists are not equal, but True and 1 are."""
        self.assertIs(type(plan), tuple)
        ways = list(plan[0])
        for row in plan[1]:
            self.assertIs(type(row), tuple)
            self.assertIn(type(row[0]), (int, type(None)))
            self.assertIs(type(row[1]), list)
            ways += row[1]
        for way in ways:
            self.assertIs(type(way), tuple)
            self.assertEqual([type(number) for number in way], [int, int])

    def test_what_is_written_is_read_to_the_same_plan(self):
        chance = Random(13)
        for house in slow.some_houses(60, 8, 5, 9, 6):
            for most in (0, 1, 3, 12, 120, 300):
                self.check_same(slow.some_plan(chance, house, most))

    def test_plans_of_the_search(self):
        for house in (examples.small_house(), examples.full_house(), examples.long_house()):
            for guess in ([0], [1], [len(house.looks) - 1], list(range(len(house.looks)))):
                if planned(house, guess) is not None:
                    self.check_same(planned(house, guess))

    def test_300_rows_and_301(self):
        for many in (1, 2, 299, 300):
            self.check_same(examples.row_of_deeds(many))
            self.check_same(([(look, many - 1) for look in range(10)], [THERE] * many))
        for many in (301, 302, 999, 1001):
            self.refused(written(examples.row_of_deeds(many)))
            self.refused("begin\n" + "there\n" * many)
            self.refused("begin 0:0\n" + "0\n" * many)

    def test_all_looks_and_all_deeds(self):
        for look in range(10):
            for deed in range(5):
                self.assertEqual(read(f"begin {look}:0\n{deed} {look}:1\nthere\n"),
                                 ([(look, 0)], [(deed, [(look, 1)]), THERE]))

    def test_texts_that_write_no_plan(self):
        for text in WRONG:
            with self.subTest(text):
                self.refused(text)

    def test_a_text_with_one_sign_more_or_less(self):
        text = "begin 0:1 4:0\n2 0:1\nthere\n"
        for at in range(len(text) + 1):
            for sign in " \n\t0123:-bt":
                self.check_text(text[:at] + sign + text[at:])
                self.check_text(text[:at] + sign + text[at + 1:])
            self.check_text(text[:at] + text[at + 1:])

    def check_text(self, text):
        """A text is refused, or it is just what is written for the plan that it is read to."""
        try:
            plan = read(text)
        except BadText:
            return
        self.assertEqual(written(plan), text)

    def test_what_is_no_text(self):
        for value in (None, True, 0, b"begin\n", [], ["begin\n"], ("begin\n",), ([], []),
                      examples.Hostile()):
            self.refused(value)


class InterfaceTest(unittest.TestCase):
    def test_each_function_stands_in_its_file_with_its_arguments(self):
        for name, arguments in {"written": ["plan"], "read": ["text"]}.items():
            function = getattr(notes, name)
            self.assertEqual(function.__module__, "blindplan.notes")
            self.assertEqual(list(inspect.signature(function).parameters), arguments)

    def test_arguments_by_name(self):
        self.assertEqual(written(plan=([], [])), "begin\n")
        self.assertEqual(read(text="begin\n"), ([], []))


if __name__ == "__main__":
    unittest.main()
