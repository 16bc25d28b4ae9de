"""Houses and wrong values that several tests use."""

from itertools import combinations

from blindplan.houses import House


class Hostile:
    """Answers no question: each operator of it raises."""

    def refuse(self, *told):
        raise RuntimeError("asked")

    __eq__ = __ne__ = __lt__ = __le__ = __gt__ = __ge__ = refuse
    __hash__ = __bool__ = __len__ = __iter__ = __next__ = __getitem__ = refuse
    __int__ = __index__ = __contains__ = __repr__ = __str__ = refuse
    __add__ = __radd__ = __sub__ = __rsub__ = __mod__ = refuse


class Pretender(Hostile):
    """Tells by its class that it is a list, and is none."""

    __class__ = list


def items_of_nought():
    yield 0


def looped():
    """A list that contains itself."""
    rows = []
    rows.append(rows)
    return rows


def no_lists():
    """Values of which none is a list."""
    return [
        None, True, False, 0, 1, -1, 10 ** 40, 1.0, "", "0", "01", b"", b"\x00",
        (), (0,), ((0,),), {}, {0: 0}, {0}, frozenset([0]), range(1), items_of_nought(),
        iter([0]), object(), Hostile(), Pretender(), list, House, len,
    ]


def no_numbers():
    """Values of which none is a whole number from nought on."""
    return [
        None, True, False, -1, -10 ** 40, 0.0, 1.0, float("nan"), 1j, "", "0", b"0",
        [], [0], [[0]], looped(), (), (0,), {}, {0}, object(), Hostile(), Pretender(), int, House,
    ]


def small_house():
    """Four rooms, three looks, two deeds; rooms 1 and 3 are wished."""
    return House([5, 0, 5, 9], [[[1], [2], [3], [0]], [[0, 2], [1], [0, 1, 3], [2, 3]]], [1, 3])


def full_house():
    """As many rooms and deeds as there may be."""
    deeds = [
        [[(room + 1) % 8] for room in range(8)],
        [[0, 7]] * 8,
        [list(range(room + 1)) for room in range(8)],
        [list(range(room, 8)) for room in range(8)],
        [[7 - room] for room in range(8)],
    ]
    return House([0, 9, 3, 0, 9, 3, 0, 1], deeds, [0, 2, 4, 6, 7])


def lone_house():
    """One room, one deed, nothing wished."""
    return House([9], [[[0]]], [])


def all_houses():
    return [small_house(), full_house(), lone_house()]


def all_guesses(house):
    """Each guess of the house, made apart from the program."""
    rooms = range(len(house.looks))
    return [list(some) for many in range(1, len(rooms) + 1) for some in combinations(rooms, many)]


def no_guesses(house):
    """Values of which none is a guess of the house."""
    many = len(house.looks)
    wrong = no_lists() + [
        [], [many], [-1], [0, many], [0, 0], [many - 1, many - 1], [1, 0], [0, 2, 1], [0, 1, 1],
        list(range(many + 1)), [0] * 9, [10 ** 40], [[]], [[0]], looped(),
    ]
    wrong = wrong + [[value] for value in no_numbers()]
    if many > 1:
        wrong = wrong + [[0, value] for value in no_numbers()]
    return wrong


def fields(house):
    """What the house holds, in lists that are not the house's."""
    deeds = [[list(entry) for entry in deed] for deed in house.deeds]
    return list(house.looks), deeds, list(house.wished)


THERE = (None, [])


def room_line():
    """Six rooms in each of which something else is seen; one deed, and room 4 is wished."""
    return House([0, 1, 2, 3, 4, 5], [[[1], [2], [4], [5], [4], [4]]], [4])


def long_house():
    """In all rooms the same is seen, and from all eight together it takes 250 steps."""
    deeds = [
        [[4, 7], [1, 3, 4, 6], [6], [0, 1, 4, 5, 6, 7], [0, 2, 3, 5], [0, 1, 3, 4, 5, 6, 7],
         [0, 1, 7], [1, 2, 3, 5, 6]],
        [[2, 3], [1, 2, 3, 4, 7], [3], [3, 5], [1, 3], [0, 3], [0, 2, 5], [1, 4]],
        [[2], [7], [6], [0], [1], [3], [5], [4]],
        [[6], [1, 4, 7], [0, 1, 2, 3, 5, 6, 7], [0, 2], [1], [6], [2, 6], [1, 4]],
        [[6, 7], [0, 1, 4, 5], [1], [0, 2, 3, 6], [1, 2, 3, 4, 5, 7], [2, 4, 5, 6, 7], [6],
         [3, 4, 6, 7]],
    ]
    return House([0] * 8, deeds, [4])


def closed_house():
    """As many rooms and deeds as there may be, the same is seen in all, nothing is wished."""
    deeds = [[[(room + deed) % 8] for room in range(8)] for deed in range(4)]
    return House([7] * 8, deeds + [[[0, room] if room else [0] for room in range(8)]], [])


def small_plan():
    """A plan of the small house that leads from the rooms 0 and 2 with one step."""
    return ([(5, 0)], [(0, [(0, 1), (9, 1)]), (None, [])])


def row_of_deeds(many):
    """A plan of so many rows, each but the last with deed 0 and on to the next for look 0."""
    rows = [(0, [(0, place + 1)]) for place in range(many - 1)]
    return ([(0, 0)], rows + [(None, [])])


def no_pairs():
    """Values of which none is a pair of two parts."""
    return no_lists() + [
        [], [[], []], [None, []], [0, []], [0, 0], looped(), (), ([],), (None,), (0,),
        ([], [], []), (None, [], []), (0, [], []), (0, 0, 0), (0, 0, 0, 0),
    ]


def no_ways():
    """What is no ways anywhere in a plan of four rows."""
    wrong = no_lists() + [
        looped(), [[]], [0], [(0, 2), (0, 3)], [(0, 2), (0, 2)], [(3, 2), (1, 2)],
        [(0, 2), (2, 2), (1, 2)], [(9, 2), (10, 2)], [(0, 4)], [(0, 300)], [(0, 2), (1, 4)],
        [(0, 10 ** 40)], [(10, 2)], [(11, 2)], [(10 ** 40, 2)], [(look, 2) for look in range(11)],
        [(look, 2) for look in (0, 1, 2, 3, 4, 5, 6, 7, 8, 9, 9)], ((0, 2),), {0: 2}, [[0, 2]],
        [[(0, 2)]], [(0, 2), [1, 2]],
    ]
    wrong += [[value] for value in no_pairs()] + [[(0, 2), value] for value in no_pairs()]
    wrong += [[(value, 2)] for value in no_numbers()] + [[(0, value)] for value in no_numbers()]
    return wrong + [[(0, 2), (value, 2)] for value in no_numbers()]


def no_ways_of_a_row():
    """What is no ways in a row at place 1 of four rows: there the places are 2 and 3."""
    return no_ways() + [[(0, 1)], [(0, 0)], [(0, 2), (1, 1)], [(0, 0), (1, 2)]]


def no_rows(house):
    """What is no row at place 1 of four rows."""
    many = len(house.deeds)
    wrong = no_pairs() + [(None, [(0, 2)]), (None, [(0, 1)]), (None, ((0, 2),))]
    wrong += [(None, value) for value in no_lists() + [[None], [[]]]]
    wrong += [(deed, [(0, 2)]) for deed in (None, many, many + 1, -many, 300, 10 ** 40)]
    for value in no_numbers():
        if value is not None:
            wrong += [(value, []), (value, [(0, 2)])]
    for deed in (0, many - 1):
        wrong += [(deed, ways) for ways in no_ways_of_a_row()]
    return wrong


def no_plans(house):
    """Values of which none is a plan of the house."""
    wrong = no_pairs() + [((), ()), ([], ()), ((), []), ([], None), (None, []), ([], {}), ({}, [])]
    wrong += [([], value) for value in no_lists() + [looped()]]
    wrong += [([(0, 0)], value) for value in no_lists() + [[]]]
    for row in no_rows(house):
        wrong += [([(0, 0)], [THERE, row, THERE, THERE]), ([], [(0, [(0, 1)]), row, THERE, THERE])]
    wrong += [(ways, [THERE, THERE, THERE, THERE]) for ways in no_ways()]
    wrong += [([(0, 0)], [[None, []]]), ([(0, 0)], [[0, []]]), ([[0, 0]], [THERE])]
    return wrong + [([], [THERE] * 301), row_of_deeds(301), ([(0, 0)], [(0, [])] * 302)]
