"""What weights have in deterministic families: for a global assignment, and at most."""

from belltables.ratios import lowest, over_one, total
from belltables.shapes import assignment_sums, assignments_of, everything, place_of, sizes_of
from belltables.supports import told_of


def first_greatest(scenario, weights):
    """(NUMBER, ASSIGNMENT): the greatest sum of weights of a global assignment, and the first one that has it."""
    rows, bottom = over_one(weights)
    sums = assignment_sums(scenario, rows)
    best = max(sums)
    return (lowest(best, bottom), assignments_of(scenario)[sums.index(best)])


def told_places(scenario, assignment):
    """For each context the index of the section that the global assignment tells: a list."""
    whole = everything(scenario)
    return [place_of(sizes_of(scenario, context), told_of(whole, assignment, context)) for context in scenario[1]]


def value_at(scenario, weights, assignment):
    """The sum of the weights of the sections of a global assignment."""
    return total([row[place] for row, place in zip(weights, told_places(scenario, assignment))])
