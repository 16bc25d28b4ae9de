"""The least steps: plans that surely lead out, and lists that show that none does.

A part is here a guess in all of whose rooms the same is seen, as a tuple, so
that it can be a key. Whoever goes by a plan always knows to be in some part,
and what is best to do depends on nothing but that part.
"""

from blindplan.errors import BadSteps
from blindplan.guesses import behind, is_there, need_guess, parts
from blindplan.kinds import is_whole

MOST_STEPS = 150


def least(house, guess):
    """The fewest steps of a plan that leads from the guess, or None."""
    need_guess(house, guess)
    return least_of(found_from(house, reached(house, guess)), seen(house, guess))


def planned(house, guess):
    """A plan that leads from the guess with the least steps, or None."""
    need_guess(house, guess)
    found = found_from(house, reached(house, guess))
    firsts = seen(house, guess)
    if least_of(found, firsts) is None:
        return None
    # There are at most 255 parts of 8 rooms, so a row for each is never too many.
    order = followed(found, firsts)
    places = {part: place for place, part in enumerate(order)}
    rows = []
    for part in order:
        _, deed, onward = found[part]
        rows.append((deed, ways_to(house, onward, places)))
    return (ways_to(house, firsts, places), rows)


def failing(house, guess, steps):
    """Lists that show that no plan with at most so many steps leads, or None."""
    need_guess(house, guess)
    need_steps(steps)
    table = reached(house, guess)
    found = found_from(house, table)
    fewest = least_of(found, seen(house, guess))
    if fewest is not None and fewest <= steps:
        return None
    return [failing_within(table, found, left) for left in range(steps + 1)]


def never(house, guess):
    """A list that shows that no plan leads from the guess, or None."""
    need_guess(house, guess)
    table = reached(house, guess)
    found = found_from(house, table)
    if least_of(found, seen(house, guess)) is not None:
        return None
    return [list(part) for part in table if part not in found]


def need_steps(steps):
    """Refuse what is no number of steps from 0 to 150."""
    if not is_whole(steps, MOST_STEPS + 1):
        raise BadSteps("the steps are no whole number from 0 to 150")


def seen(house, guess):
    """The parts of the guess, rising by look."""
    return [tuple(rooms) for _, rooms in parts(house, guess)]


def reached(house, guess):
    """Each part in which one may be who begins in the guess, with what is behind its deeds."""
    table = {}
    waiting = seen(house, guess)
    while waiting:
        part = waiting.pop()
        if part not in table:
            table[part] = seen_behind(house, part)
            for onward in table[part]:
                waiting.extend(onward)
    return table


def seen_behind(house, part):
    """For each deed the parts of the guess behind it."""
    deeds = range(len(house.deeds))
    return [seen(house, behind(house, list(part), deed)) for deed in deeds]


def found_from(house, table):
    """For each part from which a plan leads its least steps, its deed and the parts behind it.

    The parts of the table are found by rising steps: a part needs one step more
    than the last found of those behind its best deed.
    """
    found = {}
    fresh = {part: (None, []) for part in table if is_there(house, list(part))}
    steps = 0
    while fresh:
        for part, (deed, onward) in fresh.items():
            found[part] = (steps, deed, onward)
        fresh = found_next(table, found)
        steps += 1
    return found


def found_next(table, found):
    """The parts not found yet where some deed leads to found ones alone, with that deed."""
    fresh = {}
    for part in table:
        if part not in found:
            for deed, onward in enumerate(table[part]):
                if are_found(found, onward):
                    fresh[part] = (deed, onward)
                    break
    return fresh


def are_found(found, firsts):
    """True where a plan leads from each of the parts."""
    for part in firsts:
        if part not in found:
            return False
    return True


def least_of(found, firsts):
    """The least steps from whichever of the parts, or None where no plan leads from one."""
    if not are_found(found, firsts):
        return None
    return max([found[part][0] for part in firsts])


def followed(found, firsts):
    """The parts to which one comes from the first ones by the found deeds, most steps ahead."""
    kept = {}
    waiting = list(firsts)
    while waiting:
        part = waiting.pop()
        if part not in kept:
            kept[part] = True
            waiting.extend(found[part][2])
    return sorted(kept, key=lambda key: -found[key][0])


def ways_to(house, firsts, places):
    """The ways to the places of the parts, by the look of each."""
    return [(house.looks[part[0]], places[part]) for part in firsts]


def failing_within(table, found, steps):
    """The parts from which no plan with at most so many steps leads."""
    return [list(part) for part in table if part not in found or found[part][0] > steps]
