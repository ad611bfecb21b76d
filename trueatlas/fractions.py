"""Exact fractions: tuples (n, d) of integers in lowest terms, with d at least 1."""

from math import gcd

from trueatlas.checks import is_pair, is_whole, need


def lowest(n, d):
    """The fraction n divided by d, for integers of which d is not 0."""
    common = gcd(n, d)
    if d < 0:
        common = -common
    return (n // common, d // common)


def fraction(n, d):
    """The fraction n divided by d."""
    need(is_whole(n), "n")
    need(is_whole(d) and d != 0, "d")
    return lowest(n, d)


def is_fraction(value):
    """Whether the value is a fraction."""
    if not is_pair(value):
        return False
    n, d = value
    return is_whole(n) and is_whole(d) and d >= 1 and gcd(n, d) == 1


def need_both(first, second):
    """Refuse the two arguments of a calculation unless they are fractions."""
    need(is_fraction(first), "first")
    need(is_fraction(second), "second")


def plus(first, second):
    """The sum of two fractions."""
    need_both(first, second)
    return lowest(first[0] * second[1] + second[0] * first[1], first[1] * second[1])


def minus(first, second):
    """The difference of two fractions."""
    need_both(first, second)
    return lowest(first[0] * second[1] - second[0] * first[1], first[1] * second[1])


def times(first, second):
    """The product of two fractions."""
    need_both(first, second)
    return lowest(first[0] * second[0], first[1] * second[1])


def over(first, second):
    """The quotient of two fractions, of which the second one is not 0."""
    need_both(first, second)
    need(second[0] != 0, "second")
    return lowest(first[0] * second[1], first[1] * second[0])


def less(first, second):
    """Whether the first fraction is less than the second one."""
    need_both(first, second)
    return first[0] * second[1] < second[0] * first[1]
