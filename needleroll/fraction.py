"""Whole numbers, and fractions of them."""


def is_whole(thing):
    """Whether thing is a whole number: an int that is no truth."""
    return isinstance(thing, int) and not isinstance(thing, bool)


def common_divisor(first, second):
    """The greatest number that divides both."""
    while second != 0:
        first, second = second, first % second
    return first


def common_multiple(numbers):
    """The least number that all of the numbers divide; 1 where there are none."""
    multiple = 1
    for number in numbers:
        multiple = multiple * number // common_divisor(multiple, number)
    return multiple


def lowest(top, bottom):
    """The fraction of top by bottom, in lowest terms."""
    shared = common_divisor(top, bottom)
    return (top // shared, bottom // shared)


def is_fraction(thing):
    """Whether thing, which may be anything, is a fraction in lowest terms."""
    if not isinstance(thing, tuple) or len(thing) != 2:
        return False
    top, bottom = thing
    return is_whole(top) and is_whole(bottom) and bottom >= 1 and common_divisor(top, bottom) == 1
