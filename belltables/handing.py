"""Rows for each two contexts, a number for each section of what they share: what the first one gets for it from the
second one. Bounds of games and balances of supports have such rows.
"""

from belltables.forms import is_row, is_tuple_of
from belltables.shapes import many_sections, overlap, pairs_of, tellings


def are_handed(scenario, value):
    """Whether a value, whatever it is, has a row of fractions for each two contexts of the scenario, in order."""
    contexts = scenario[1]
    lots = [overlap(contexts[one], contexts[other]) for one, other in pairs_of(len(contexts))]
    return is_tuple_of(value, len(lots)) and (
        all([is_row(row, many_sections(scenario, lot)) for row, lot in zip(value, lots)]))


def received(scenario, handed):
    """For each context what its sections get, all other contexts together, of rows of whole numbers: a list."""
    contexts = scenario[1]
    rows = [[0] * many_sections(scenario, context) for context in contexts]
    for (one, other), numbers in zip(pairs_of(len(contexts)), handed):
        lot = overlap(contexts[one], contexts[other])
        for at, sign in ((one, 1), (other, -1)):
            places = tellings(scenario, contexts[at], lot)
            rows[at] = [so_far + sign * numbers[place] for so_far, place in zip(rows[at], places)]
    return rows
