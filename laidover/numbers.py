"""Whole numbers and shares."""


def is_whole(thing):
    """Whether a thing is a whole number; True and False are none."""
    return isinstance(thing, int) and not isinstance(thing, bool)


def common_divisor(one, other):
    """The greatest number that divides both; nought of two noughts."""
    while other != 0:
        one, other = other, one % other
    return abs(one)


def share(top, below):
    """The share top / below in lowest terms; below is above nought."""
    divisor = common_divisor(below, top)
    return (top // divisor, below // divisor)
