"""Whole numbers and shares."""


def is_whole(thing):
    """Whether a thing is a whole number; True and False are none."""
    return isinstance(thing, int) and not isinstance(thing, bool)


def common_divisor(one, other):
    """The greatest number that divides both; nought of two noughts."""
    while other != 0:
        one, other = other, one % other
    return abs(one)


def share(top, below):
    """The share top / below in lowest terms; below is above nought."""
    divisor = common_divisor(below, top)
    return (top // divisor, below // divisor)


def common_multiple(numbers):
    """The least number that all of these divide; they are above nought."""
    multiple = 1
    for number in numbers:
        multiple = multiple // common_divisor(multiple, number) * number
    return multiple


def is_share(thing):
    """Whether a thing of any kind is a share."""
    if not isinstance(thing, tuple) or len(thing) != 2:
        return False
    if not all([is_whole(number) for number in thing]):
        return False
    return thing[1] > 0 and common_divisor(thing[1], thing[0]) == 1


def common_below(shares):
    """The least below over which all of these shares can be told."""
    return common_multiple([part[1] for part in shares])


def top_over(part, below):
    """The top of a share over this below, which its own one divides."""
    return part[0] * (below // part[1])


def rising(shares):
    """Shares, the least one first."""
    # Over one and the same below it is the tops alone that tell.
    below = common_below(shares)
    return sorted(shares, key=lambda part: top_over(part, below))


def sum_of(shares):
    """All of these shares together, a share."""
    below = common_below(shares)
    return share(sum([top_over(part, below) for part in shares]), below)


def whole_root(number):
    """The greatest whole number whose square is not above this one."""
    # From above each step comes nearer, and none goes below what is told.
    root = 1 << ((number.bit_length() + 1) // 2)
    while root * root > number:
        root = (root + number // root) // 2
    return root
