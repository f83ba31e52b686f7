"""Ratios: exact fractions in lowest terms."""

from math import gcd

from neverlate.errors import InvalidRatio


def make_ratio(top, bottom):
    """Return the ratio that is equal to the fraction."""
    if bottom == 0:
        raise InvalidRatio("the bottom is 0")
    divisor = gcd(top, bottom)
    if bottom < 0:
        divisor = -divisor
    return (top // divisor, bottom // divisor)


def add_ratios(first, second):
    """Return the sum."""
    return make_ratio(first[0] * second[1] + second[0] * first[1], first[1] * second[1])


def subtract_ratios(first, second):
    """Return the first ratio minus the second one."""
    return make_ratio(first[0] * second[1] - second[0] * first[1], first[1] * second[1])


def compare_ratios(first, second):
    """Return -1, 0 or 1 if the first ratio is less than, equal to or greater than the second one."""
    left = first[0] * second[1]
    right = second[0] * first[1]
    if left < right:
        return -1
    if left > right:
        return 1
    return 0


def sum_ratios(ratios):
    """Return the sum of a list of ratios."""
    total = (0, 1)
    for ratio in ratios:
        total = add_ratios(total, ratio)
    return total


def ratio_text(ratio):
    """Return the written form of a ratio."""
    top, bottom = ratio
    if bottom == 1:
        return _decimal(top)
    return f"{_decimal(top)}/{_decimal(bottom)}"


def _decimal(number):
    """Return the digits of an integer of any size."""
    # Python's own str refuses integers of more than some thousands of digits.
    block = 10 ** 60
    rest = abs(number)
    blocks = []
    while rest >= block:
        rest, low = divmod(rest, block)
        blocks.append(str(low).zfill(60))
    blocks.append(str(rest))
    blocks.reverse()
    sign = "-" if number < 0 else ""
    return sign + "".join(blocks)
