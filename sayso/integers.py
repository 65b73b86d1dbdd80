"""Tests and sums of integers that several modules need."""


def is_whole(value):
    """Tell whether a value is an integer."""
    # Python counts True and False as integers; here they are none.
    return isinstance(value, int) and not isinstance(value, bool)


def is_between(value, low, high):
    """Tell whether a value is an integer from low to high."""
    return is_whole(value) and low <= value <= high


def power(base, exponent):
    """Return base to the power of an exponent from 0 on."""
    result = 1
    for _ in range(exponent):
        result = result * base
    return result


def digits_for(count):
    """Return the least number of binary digits that tell so many things apart."""
    digits = 0
    while power(2, digits) < count:
        digits += 1
    return digits
