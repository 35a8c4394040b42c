"""The greatest value that weights have in deterministic families."""

from belltables.ratios import lowest, over_one
from belltables.shapes import assignment_sums, assignments_of


def first_greatest(scenario, weights):
    """(NUMBER, ASSIGNMENT): the greatest sum of weights of a global assignment, and the first one that has it."""
    rows, bottom = over_one(weights)
    sums = assignment_sums(scenario, rows)
    best = max(sums)
    return (lowest(best, bottom), assignments_of(scenario)[sums.index(best)])
