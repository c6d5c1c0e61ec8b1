"""Exact fractions: pairs of a numerator and a positive denominator, in lowest terms."""


def greatest_divisor(first, second):
    """The greatest common divisor of two whole numbers; 0 if both are 0."""
    while second != 0:
        rest = first % second
        first = second
        second = rest
    return abs(first)


def ratio(numerator, denominator):
    """The fraction of a whole number and a positive one, in lowest terms."""
    divisor = greatest_divisor(numerator, denominator)
    return (numerator // divisor, denominator // divisor)


def common_denominator(fractions):
    """The smallest positive number that is a multiple of each denominator."""
    common = 1
    for fraction in fractions:
        common = common * fraction[1] // greatest_divisor(common, fraction[1])
    return common
