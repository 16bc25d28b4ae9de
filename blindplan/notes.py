"""Plans written as texts, and texts that are read to plans."""

from blindplan.errors import BadText
from blindplan.houses import MOST_DEEDS
from blindplan.plans import is_plan

BEGIN = "begin"
THERE = "there"
FIGURES = "0123456789"
MOST_FIGURES = 3


def written(plan):
    """The text that writes the plan."""
    ways, rows = plan
    lines = [BEGIN + written_ways(ways)] + [written_row(deed, onward) for deed, onward in rows]
    return "".join([line + "\n" for line in lines])


def written_row(deed, ways):
    """The row of the text for a row of the plan."""
    if deed is None:
        return THERE
    return str(deed) + written_ways(ways)


def written_ways(ways):
    """The ways, with a blank ahead of each."""
    return "".join([f" {look}:{place}" for look, place in ways])


def read(text):
    """The plan that the text writes; every other text is refused."""
    if type(text) is not str:
        raise BadText("this is no text")
    *lines, rest = text.split("\n")
    if len(lines) == 0 or rest != "":
        raise BadText("a row has no line feed behind it")
    plan = (read_begin(lines[0]), [read_row(line) for line in lines[1:]])
    if not is_plan(plan, MOST_DEEDS):
        raise BadText("what the text writes is no plan")
    return plan


def read_begin(line):
    """The plan's ways, which the first row writes."""
    word, *words = line.split(" ")
    if word != BEGIN:
        raise BadText("the first row does not begin the plan")
    return read_ways(words)


def read_row(line):
    """The row of the plan that a further row of the text writes."""
    word, *words = line.split(" ")
    deed = None if word == THERE else read_number(word)
    return (deed, read_ways(words))


def read_ways(words):
    """The ways that the words write."""
    return [read_way(word) for word in words]


def read_way(word):
    """The pair of a look and a place; without a colon the place is an empty word."""
    look, _, place = word.partition(":")
    return (read_number(look), read_number(place))


def read_number(word):
    """The number that the word writes, without a needless nought ahead."""
    if not 1 <= len(word) <= MOST_FIGURES or word != "0" and word[0] == "0":
        raise BadText("a number is not written so")
    for sign in word:
        # What is a digit elsewhere in the world is no figure here.
        if sign not in FIGURES:
            raise BadText("a number is not written in figures")
    return int(word)
