"""Exact fractions: pairs of a numerator and a positive denominator, in lowest terms."""


def greatest_divisor(first, second):
    """The greatest common divisor of two whole numbers; 0 if both are 0."""
    while second != 0:
        rest = first % second
        first = second
        second = rest
    return abs(first)


def common_multiple(numbers):
    """The smallest positive number that is a multiple of each of these positive ones."""
    common = 1
    for number in numbers:
        common = common * number // greatest_divisor(common, number)
    return common


def ratio(numerator, denominator):
    """The fraction of a whole number and a positive one, in lowest terms."""
    divisor = greatest_divisor(numerator, denominator)
    return (numerator // divisor, denominator // divisor)


def added(fractions):
    """The sum of some fractions."""
    common = common_multiple([fraction[1] for fraction in fractions])
    return ratio(sum([fraction[0] * (common // fraction[1]) for fraction in fractions]), common)


def product(first, second):
    """One fraction times another one."""
    return ratio(first[0] * second[0], first[1] * second[1])


def quotient(first, second):
    """One fraction divided by a positive one."""
    return ratio(first[0] * second[1], first[1] * second[0])


def rest_to_one(fraction):
    """What a fraction lacks of 1."""
    return (fraction[1] - fraction[0], fraction[1])
