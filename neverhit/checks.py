"""Checks of any values: integers, lists, points, ways."""

from math import gcd

FARTHEST = 10 ** 12


def is_integer(value):
    """Whether a value is an integer; True and False are none."""
    return isinstance(value, int) and not isinstance(value, bool)


def is_within(value, least, most):
    """Whether a value is an integer from least to most; None stands for no bound."""
    if not is_integer(value):
        return False
    return (least is None or value >= least) and (most is None or value <= most)


def is_row(value):
    """Whether a value is a list or a tuple, which may stand for one another."""
    return isinstance(value, (list, tuple))


def is_point(value):
    """Whether a value is a pair of integers."""
    return is_row(value) and len(value) == 2 and is_integer(value[0]) and is_integer(value[1])


def is_way(value):
    """Whether a value is a pair of integers within their bounds that no integer above 1 divides both."""
    if not is_point(value):
        return False
    p, q = value
    if not (is_within(p, -FARTHEST, FARTHEST) and is_within(q, -FARTHEST, FARTHEST)):
        return False
    # of (0, 0) the greatest common divisor is 0, so that this bars it, too
    return gcd(p, q) == 1


def is_same(value, told):
    """Whether any value is what is told: an integer, or rows within rows of such; True and False are none of them."""
    if not is_row(told):
        return is_integer(value) and value == told
    if not is_row(value) or len(value) != len(told):
        return False
    return all([is_same(item, other) for item, other in zip(value, told)])
