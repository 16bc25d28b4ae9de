"""Slow ways to the same answers, which use nothing of the program but the house's fields."""

from itertools import product
from random import Random

from blindplan.houses import House


def some_houses(many, rooms, deeds, looks, seed):
    """Houses of at most so many rooms, deeds and looks; the same ones each time."""
    chance = Random(seed)
    return [one_house(chance, 1 + number % rooms, deeds, looks) for number in range(many)]


def one_house(chance, rooms, deeds, looks):
    def some_rooms(least, most):
        return sorted(chance.sample(range(rooms), min(rooms, chance.randint(least, most))))

    told = [[some_rooms(1, chance.choice((1, 1, 2, 3))) for _ in range(rooms)]
            for _ in range(chance.randint(1, deeds))]
    return House([chance.randrange(looks) for _ in range(rooms)], told, some_rooms(0, 2))


def some_plan(chance, house, most_rows):
    """A plan of the house with places and deeds by chance; it often leads nowhere."""
    def some_ways(first):
        if first >= many:
            return []
        return [(look, chance.randrange(first, many)) for look in sorted(set(house.looks))
                if chance.random() < 0.9]

    many = chance.randint(0, most_rows)
    rows = []
    for place in range(many):
        if place == many - 1 or chance.random() < 0.3:
            rows.append((None, []))
        else:
            rows.append((chance.randrange(len(house.deeds)), some_ways(place + 1)))
    return (some_ways(0), rows)


def runs(house, plan, room):
    """Each walk by the plan from the room, and whether it ended by the plan or without a way."""
    return runs_on(house, plan, plan[0], [room])


def runs_on(house, plan, ways, walk):
    places = [place for look, place in ways if look == house.looks[walk[-1]]]
    if not places:
        return [(walk, False)]
    deed, onward = plan[1][places[0]]
    if deed is None:
        return [(walk, True)]
    told = []
    for room in house.deeds[deed][walk[-1]]:
        told += runs_on(house, plan, onward, walk + [room])
    return told


def slow_leads(house, guess, plan):
    """The steps of the plan by all of its walks, or None."""
    walks = [run for room in guess for run in runs(house, plan, room)]
    if all(ended and walk[-1] in house.wished for walk, ended in walks):
        return max(len(walk) - 1 for walk, _ in walks)
    return None


def parts_of(house, rooms):
    """The parts by looks as lists."""
    looks = sorted({house.looks[room] for room in rooms})
    return [[room for room in sorted(rooms) if house.looks[room] == look] for look in looks]


def all_behind(house, rooms, deed):
    return sorted({room for start in rooms for room in house.deeds[deed][start]})


def slow_least(house, guess):
    """The fewest steps by trying each number, each deed and each thing that is seen."""
    told = {}

    def within(rooms, steps):
        if (tuple(rooms), steps) not in told:
            told[tuple(rooms), steps] = set(rooms) <= set(house.wished) or steps > 0 and any(
                all(within(part, steps - 1) for part in parts_of(house, all_behind(house, rooms, deed)))
                for deed in range(len(house.deeds)))
        return told[tuple(rooms), steps]

    # No plan needs to come to the same rooms twice, and there are no more than these.
    for steps in range(2 ** len(house.looks)):
        if all(within(part, steps) for part in parts_of(house, guess)):
            return steps
    return None


def plans_of_three_rows(house):
    """Each plan of three rows with the looks 0 and 1."""
    def all_ways(first):
        places = [None] + list(range(first, 3))
        return [[(look, place) for look, place in enumerate(pair) if place is not None]
                for pair in product(places, repeat=2)]

    rows = [[(None, [])] + list(product(range(len(house.deeds)), all_ways(place + 1)))
            for place in range(3)]
    return [(ways, list(some)) for ways in all_ways(0) for some in product(*rows)]
