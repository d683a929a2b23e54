"""Whole numbers and shares."""


def is_whole(thing):
    """Whether a thing is a whole number; True and False are none."""
    return isinstance(thing, int) and not isinstance(thing, bool)


def common_divisor(one, other):
    """The greatest number that divides both; nought of two noughts."""
    while other != 0:
        one, other = other, one % other
    return abs(one)


def share(top, below):
    """The share top / below in lowest terms; below is above nought."""
    divisor = common_divisor(below, top)
    return (top // divisor, below // divisor)


def common_multiple(numbers):
    """The least number that all of these divide; they are above nought."""
    multiple = 1
    for number in numbers:
        multiple = multiple // common_divisor(multiple, number) * number
    return multiple


def rising(shares):
    """Shares, the least one first."""
    # Over one and the same below it is the tops alone that tell.
    below = common_multiple([part[1] for part in shares])
    return sorted(shares, key=lambda part: part[0] * (below // part[1]))
