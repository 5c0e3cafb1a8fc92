"""Fractions: pairs (n, m) of whole numbers without a common divisor above 1, m above 0."""

from math import gcd, lcm

from perfectgraphs.graphs import is_tuple_of_two, is_whole_from

ZERO = (0, 1)


def is_fraction_from_zero(value):
    """Whether the value, whatever it is, is a fraction from 0 on."""
    if not is_tuple_of_two(value):
        return False
    n, m = value
    return is_whole_from(n, 0) and is_whole_from(m, 1) and gcd(n, m) == 1


def lowest_terms(n, m):
    """The fraction n / m, m being unlike 0."""
    shared = gcd(n, m) if m > 0 else -gcd(n, m)
    return (n // shared, m // shared)


def total(row):
    """The sum of the fractions in the row."""
    whole = 0
    parts = 1
    for n, m in row:
        whole, parts = lowest_terms(whole * m + n * parts, parts * m)
    return (whole, parts)


def is_up_to(fraction, number):
    """Whether the fraction is not above the whole number."""
    n, m = fraction
    return n <= number * m


def common_denominator(row):
    """The least number that the denominators of all fractions in the row divide."""
    least = 1
    for _, m in row:
        least = lcm(least, m)
    return least
