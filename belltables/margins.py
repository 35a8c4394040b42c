"""Inequalities by their margins: what BOUND has above the value of each deterministic family.

Deterministic families fill the dimension of all no-signalling ones, so the margins tell all that an inequality says
of these.
"""

from math import gcd

from belltables.inner import by_marks, mark_places
from belltables.ratios import over_one
from belltables.shapes import assignment_sums


def lowest_margins(scenario, inequality):
    """The margins, times the one number above 0 that makes them whole without a common divisor: a list."""
    weights, bound = inequality
    rows, _ = over_one([*weights, (bound,)])
    margins = [rows[-1][0] - number for number in assignment_sums(scenario, rows[:-1])]
    common = 0
    for margin in margins:
        common = gcd(common, margin)
    return [margin // max(common, 1) for margin in margins]


def normal_of(scenario, margins):
    """The normal form of an inequality with these lowest margins."""
    return normal_by(scenario[0], mark_places(scenario), margins)


def normal_by(outcomes, places, margins):
    """The same with the places of the marks at hand.

    Margins and numbers of marks are whole sums of one another, so they have the same common divisors.
    """
    numbers = by_marks(outcomes, margins)
    return (tuple([-numbers[place] for place in places]), numbers[-1])
