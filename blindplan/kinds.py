"""What kind of value was handed in, whatever it is."""


# Asked by type(..): True and False are no whole numbers, and a class of a
# caller could answer len, a loop or a comparison as it likes.


def is_whole(value, end):
    """True for a whole number from nought on that is below end."""
    return type(value) is int and 0 <= value < end


def is_list(value, least, most):
    """True for a list with at least so many and at most so many items."""
    return type(value) is list and least <= len(value) <= most


def is_rising(value, end):
    """True for a list of whole numbers below end, rising, none twice; it may be empty."""
    if not is_list(value, 0, end):
        return False
    lowest = 0
    for number in value:
        if not is_whole(number, end) or number < lowest:
            return False
        lowest = number + 1
    return True


def is_pair(value):
    """True for a tuple of two."""
    return type(value) is tuple and len(value) == 2
