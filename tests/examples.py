"""Houses and wrong values that several tests use."""

from itertools import combinations

from blindplan.houses import House


class Hostile:
    """Answers no question: each operator of it raises."""

    def refuse(self, *told):
        raise RuntimeError("asked")

    __eq__ = __ne__ = __lt__ = __le__ = __gt__ = __ge__ = refuse
    __hash__ = __bool__ = __len__ = __iter__ = __next__ = __getitem__ = refuse
    __int__ = __index__ = __contains__ = __repr__ = __str__ = refuse
    __add__ = __radd__ = __sub__ = __rsub__ = __mod__ = refuse


class Pretender(Hostile):
    """Tells by its class that it is a list, and is none."""

    __class__ = list


def items_of_nought():
    yield 0


def looped():
    """A list that contains itself."""
    rows = []
    rows.append(rows)
    return rows


def no_lists():
    """Values of which none is a list."""
    return [
        None, True, False, 0, 1, -1, 10 ** 40, 1.0, "", "0", "01", b"", b"\x00",
        (), (0,), ((0,),), {}, {0: 0}, {0}, frozenset([0]), range(1), items_of_nought(),
        iter([0]), object(), Hostile(), Pretender(), list, House, len,
    ]


def no_numbers():
    """Values of which none is a whole number from nought on."""
    return [
        None, True, False, -1, -10 ** 40, 0.0, 1.0, float("nan"), 1j, "", "0", b"0",
        [], [0], [[0]], looped(), (), (0,), {}, {0}, object(), Hostile(), Pretender(), int, House,
    ]


def small_house():
    """Four rooms, three looks, two deeds; rooms 1 and 3 are wished."""
    return House([5, 0, 5, 9], [[[1], [2], [3], [0]], [[0, 2], [1], [0, 1, 3], [2, 3]]], [1, 3])


def full_house():
    """As many rooms and deeds as there may be."""
    deeds = [
        [[(room + 1) % 8] for room in range(8)],
        [[0, 7]] * 8,
        [list(range(room + 1)) for room in range(8)],
        [list(range(room, 8)) for room in range(8)],
        [[7 - room] for room in range(8)],
    ]
    return House([0, 9, 3, 0, 9, 3, 0, 1], deeds, [0, 2, 4, 6, 7])


def lone_house():
    """One room, one deed, nothing wished."""
    return House([9], [[[0]]], [])


def all_houses():
    return [small_house(), full_house(), lone_house()]


def all_guesses(house):
    """Each guess of the house, made apart from the program."""
    rooms = range(len(house.looks))
    return [list(some) for many in range(1, len(rooms) + 1) for some in combinations(rooms, many)]


def no_guesses(house):
    """Values of which none is a guess of the house."""
    many = len(house.looks)
    wrong = no_lists() + [
        [], [many], [-1], [0, many], [0, 0], [many - 1, many - 1], [1, 0], [0, 2, 1], [0, 1, 1],
        list(range(many + 1)), [0] * 9, [10 ** 40], [[]], [[0]], looped(),
    ]
    wrong = wrong + [[value] for value in no_numbers()]
    if many > 1:
        wrong = wrong + [[0, value] for value in no_numbers()]
    return wrong


def fields(house):
    """What the house holds, in lists that are not the house's."""
    deeds = [[list(entry) for entry in deed] for deed in house.deeds]
    return list(house.looks), deeds, list(house.wished)
