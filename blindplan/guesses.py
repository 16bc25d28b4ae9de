"""Guesses: the lists of rooms where one may be."""

from blindplan.errors import BadDeed, BadGuess
from blindplan.kinds import is_rising, is_whole


def need_guess(house, guess):
    """True for a guess; whatever is none is refused."""
    if not is_rising(guess, len(house.looks)) or len(guess) == 0:
        raise BadGuess("a guess is a rising list of at least one room")
    return True


def parts(house, guess):
    """The pairs of a look and of the guess of the rooms in which it is seen."""
    need_guess(house, guess)
    looks = sorted({house.looks[room] for room in guess})
    return [(look, rooms_seen(house, guess, look)) for look in looks]


def rooms_seen(house, guess, look):
    """The rooms of the guess in which that look is seen."""
    return [room for room in guess if house.looks[room] == look]


def behind(house, guess, deed):
    """The guess behind a deed: all rooms to which it may lead."""
    need_guess(house, guess)
    need_deed(house, deed)
    entries = house.deeds[deed]
    return sorted({room for start in guess for room in entries[start]})


def need_deed(house, deed):
    """Refuse what is no deed of the house."""
    if not is_whole(deed, len(house.deeds)):
        raise BadDeed("the house has no such deed")


def is_there(house, guess):
    """True where all rooms of the guess are wished."""
    need_guess(house, guess)
    for room in guess:
        if room not in house.wished:
            return False
    return True
