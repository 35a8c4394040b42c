"""Whole numbers, and fractions as pairs (n, m) in lowest terms."""

from math import gcd, lcm

ZERO = (0, 1)
ONE = (1, 1)


def is_whole(value):
    """Whether a value, whatever it is, is a whole number (True and False are none)."""
    return isinstance(value, int) and not isinstance(value, bool)


def is_fraction(value):
    """Whether a value, whatever it is, is a fraction."""
    if not isinstance(value, tuple) or len(value) != 2:
        return False
    top, bottom = value
    return is_whole(top) and is_whole(bottom) and bottom > 0 and gcd(top, bottom) == 1


def is_chance(value):
    """Whether a value, whatever it is, is a fraction from 0 on."""
    return is_fraction(value) and value[0] >= 0


def is_share(value):
    """Whether a value, whatever it is, is a fraction from 0 up to 1."""
    return is_chance(value) and value[0] <= value[1]


def lowest(top, bottom):
    """The fraction top / bottom, for a bottom above 0."""
    common = gcd(top, bottom)
    return (top // common, bottom // common)


def minus(one, two):
    """The first fraction less the second one."""
    return lowest(one[0] * two[1] - two[0] * one[1], one[1] * two[1])


def times(one, two):
    """The product of two fractions."""
    return lowest(one[0] * two[0], one[1] * two[1])


def plus(one, two):
    """The sum of two fractions."""
    return lowest(one[0] * two[1] + two[0] * one[1], one[1] * two[1])


def is_less(one, two):
    """Whether the first fraction is below the second one."""
    return one[0] * two[1] < two[0] * one[1]


def mixed(share, one, two):
    """The share of the first number and the rest of the second one."""
    return plus(times(share, one), times(minus(ONE, share), two))


def mixed_rows(share, one, two):
    """The same for all numbers of rows of fractions, one by one."""
    return tuple([tuple([mixed(share, number, beside) for number, beside in zip(first, second)])
                  for first, second in zip(one, two)])


def bottom_of(numbers):
    """The least common multiple of the denominators of fractions."""
    bottom = 1
    for number in numbers:
        bottom = lcm(bottom, number[1])
    return bottom


def over(numbers, bottom):
    """The fractions times a multiple of all their denominators: a list of whole numbers."""
    return [top * (bottom // below) for top, below in numbers]


def total(numbers):
    """The sum of fractions."""
    bottom = bottom_of(numbers)
    return lowest(sum(over(numbers, bottom)), bottom)


def over_one(rows):
    """Rows of fractions as rows of whole numbers, with the one denominator that they all have then."""
    bottom = bottom_of([number for row in rows for number in row])
    return [over(row, bottom) for row in rows], bottom


def lowest_row(numbers, bottom):
    """The tuple of the fractions number / bottom."""
    return tuple([lowest(number, bottom) for number in numbers])


def product_sum(rows, others):
    """The sum of the products of all numbers of rows of fractions with those of other rows, one by one."""
    ones, bottom = over_one(rows)
    twos, below = over_one(others)
    found = sum([one * two for line, beside in zip(ones, twos) for one, two in zip(line, beside)])
    return lowest(found, bottom * below)
