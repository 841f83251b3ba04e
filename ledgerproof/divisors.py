"""Integers and fractions in lowest terms."""

from math import gcd, lcm


def common_divisor(numbers):
    """The greatest common divisor of the numbers, 0 if all are 0."""
    common = 0
    for number in numbers:
        common = gcd(common, number)
    return common


def without_divisor(numbers):
    """The numbers divided by their greatest common divisor; if all are 0, they stay 0."""
    common = common_divisor(numbers)
    return tuple([number // common for number in numbers]) if common > 0 else tuple(numbers)


def lowest(above, below):
    """The fraction of two integers, the second one above 0, in lowest terms."""
    common = gcd(above, below)
    return (above // common, below // common)


def over_one_scale(fractions):
    """The least scale whose products with the fractions are integers, and these products."""
    scale = 1
    for _, below in fractions:
        scale = lcm(scale, below)
    return (scale, [above * (scale // below) for above, below in fractions])
