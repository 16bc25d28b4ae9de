"""Houses: rooms with looks, deeds that lead from room to room, wished rooms."""

from blindplan.errors import BadHouse
from blindplan.kinds import is_list, is_rising, is_whole

MOST_ROOMS = 8
MOST_DEEDS = 5
LOOKS = 10


class House:
    """The looks of its rooms, its deeds and its wished rooms, in lists of its own."""

    def __init__(self, looks, deeds, wished):
        need_looks(looks)
        need_deeds(deeds, len(looks))
        need_wished(wished, len(looks))
        self.looks = list(looks)
        self.deeds = [[list(entry) for entry in deed] for deed in deeds]
        self.wished = list(wished)


def need_looks(looks):
    """Refuse what is no list of a look for each of 1 to 8 rooms."""
    if not is_list(looks, 1, MOST_ROOMS):
        raise BadHouse("the looks are no list for 1 to 8 rooms")
    for look in looks:
        if not is_whole(look, LOOKS):
            raise BadHouse("a look is no whole number from 0 to 9")


def need_deeds(deeds, rooms):
    """Refuse what is no list of 1 to 5 deeds in a house of so many rooms."""
    if not is_list(deeds, 1, MOST_DEEDS):
        raise BadHouse("the deeds are no list of 1 to 5 deeds")
    for deed in deeds:
        if not is_list(deed, rooms, rooms):
            raise BadHouse("a deed is no list with an entry for each room")
        for entry in deed:
            need_entry(entry, rooms)


def need_entry(entry, rooms):
    """Refuse what does not tell to which of so many rooms a deed may lead."""
    if not is_rising(entry, rooms) or len(entry) == 0:
        raise BadHouse("an entry is no rising list of at least one room")


def need_wished(wished, rooms):
    """Refuse what does not tell which of so many rooms are wished."""
    if not is_rising(wished, rooms):
        raise BadHouse("the wished rooms are no rising list of rooms")
