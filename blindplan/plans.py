"""Plans: what to do by what is seen, whether they lead, and walks by them."""

from blindplan.errors import BadGuess, BadPlan, NoWay
from blindplan.guesses import need_guess
from blindplan.houses import LOOKS
from blindplan.kinds import is_list, is_pair, is_rising, is_whole

MOST_ROWS = 300


def need_plan(house, plan):
    """True for a plan of the house; whatever is none is refused."""
    if not is_plan(plan, len(house.deeds)):
        raise BadPlan("the house has no such plan")
    return True


def is_plan(plan, deeds):
    """True for a plan in a house of so many deeds."""
    if not is_pair(plan):
        return False
    ways, rows = plan
    if not is_list(rows, 0, MOST_ROWS) or not are_ways(ways, 0, len(rows)):
        return False
    for place, row in enumerate(rows):
        if not is_row(row, deeds, place, len(rows)):
            return False
    return True


def is_row(row, deeds, place, end):
    """True for a row that may stand at that place of so many rows."""
    if not is_pair(row):
        return False
    deed, ways = row
    if deed is None:
        return is_list(ways, 0, 0)
    return is_whole(deed, deeds) and are_ways(ways, place + 1, end)


def are_ways(ways, first, end):
    """True for ways to places from the first one on and below end, rising by look."""
    if not is_list(ways, 0, LOOKS):
        return False
    for way in ways:
        if not is_pair(way) or not is_whole(way[1], end) or way[1] < first:
            return False
    return is_rising([way[0] for way in ways], LOOKS)


def leads(house, guess, plan):
    """The steps of the plan, or None where it does not lead from the guess."""
    need_guess(house, guess)
    need_plan(house, plan)
    ways, rows = plan
    known = {}
    # The ways of a row lead to rows behind it alone, so these are worked out first.
    for place in reversed(range(len(rows))):
        for room in range(len(house.looks)):
            known[place, room] = steps_by_row(house, rows[place], room, known)
    return steps_by_ways(house, ways, guess, known)


def steps_by_row(house, row, room, known):
    """The most deeds from that room on by the row, or None where it does not lead."""
    deed, ways = row
    if deed is None:
        return 0 if room in house.wished else None
    steps = steps_by_ways(house, ways, house.deeds[deed][room], known)
    return None if steps is None else steps + 1


def steps_by_ways(house, ways, rooms, known):
    """The most deeds by the ways from whichever of the rooms, or None where they do not lead.

    What is known holds the same for each row's place and each room.
    """
    places = dict(ways)
    most = 0
    for room in rooms:
        place = places.get(house.looks[room])
        if place is None or known[place, room] is None:
            return None
        most = max(most, known[place, room])
    return most


def gone(house, plan, room, turns):
    """The rooms where one is who goes by the plan, the first one ahead."""
    need_plan(house, plan)
    need_room(house, room)
    ways, rows = plan
    walk = [room]
    deed, onward = rows[need_way(ways, house.looks[room])]
    while deed is not None:
        # Each deed takes a turn, so as many turns are taken as rooms were left.
        walk.append(room_behind(house.deeds[deed][walk[-1]], turns, len(walk) - 1))
        deed, onward = rows[need_way(onward, house.looks[walk[-1]])]
    return walk


def need_room(house, room):
    """Refuse what is no room of the house."""
    if not is_whole(room, len(house.looks)):
        raise BadGuess("the house has no such room")


def need_way(ways, look):
    """The place to which the way for that look leads; refused where there is none."""
    place = dict(ways).get(look)
    if place is None:
        raise NoWay("the plan has no way for what is seen")
    return place


def room_behind(entry, turns, taken):
    """The room of the entry to which a deed leads when so many turns are taken."""
    turn = turns[taken] if taken < len(turns) else 0
    return entry[turn % len(entry)]
