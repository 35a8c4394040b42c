"""Lots of observables, their sections, and how sections of one lot tell those of another one.

Rows of numbers stand for sections by their indexes, in the order of the sections.
"""

from belltables.ratios import lowest_row, over_one


def sections_by(sizes):
    """All tuples of outcomes for so many outcomes each, in order: a list."""
    found = [()]
    for size in sizes:
        found = [section + (outcome,) for section in found for outcome in range(size)]
    return found


def sizes_of(scenario, lot):
    """How many outcomes the observables of the lot have, in order."""
    return tuple([scenario[0][observable] for observable in lot])


def many_sections(scenario, lot):
    """How many sections the lot has."""
    many = 1
    for observable in lot:
        many *= scenario[0][observable]
    return many


def sections_in(scenario, lot):
    """The sections of the lot, in order: a list."""
    return sections_by(sizes_of(scenario, lot))


def everything(scenario):
    """The lot of all observables."""
    return tuple(range(len(scenario[0])))


def assignments_of(scenario):
    """The global assignments, in order: a list."""
    return sections_by(scenario[0])


def overlap(one, other):
    """The lot of what two lots share."""
    return tuple([observable for observable in one if observable in other])


def pairs_of(many):
    """The pairs of indexes of so many, the lesser one first, in order: a list."""
    return [(one, other) for one in range(many) for other in range(one + 1, many)]


def is_within(lot, other):
    """Whether all of the lot lies in the other one."""
    return all([observable in other for observable in lot])


def is_together(contexts, lot):
    """Whether all of the lot lies in one of the contexts."""
    return any([is_within(lot, context) for context in contexts])


def place_of(sizes, section):
    """The index of the section among all of so many outcomes."""
    place = 0
    for size, outcome in zip(sizes, section):
        place = place * size + outcome
    return place


def tellings(scenario, whole, lot):
    """For each section of a lot, the index of the section that it tells of a lot within it: a list."""
    places = [whole.index(observable) for observable in lot]
    sizes = sizes_of(scenario, lot)
    return [place_of(sizes, [section[place] for place in places]) for section in sections_in(scenario, whole)]


def all_tellings(scenario):
    """For each context what the global assignments tell of it, as `tellings` does."""
    whole = everything(scenario)
    return [tellings(scenario, whole, context) for context in scenario[1]]


def gathered(numbers, places, many):
    """The sums of the numbers that have the same place, for so many places: a list."""
    sums = [0] * many
    for number, place in zip(numbers, places):
        sums[place] += number
    return sums


def part_sums(scenario, numbers, whole, lot):
    """A row of whole numbers for a lot, summed up for a lot within it: a list."""
    return gathered(numbers, tellings(scenario, whole, lot), many_sections(scenario, lot))


def family_sums(scenario, numbers):
    """Whole numbers for all global assignments, summed up for each context: a list of lists."""
    whole = everything(scenario)
    return [part_sums(scenario, numbers, whole, context) for context in scenario[1]]


def assignment_sums(scenario, rows):
    """For each global assignment the sum of what rows of whole numbers have at its sections: a list."""
    told = all_tellings(scenario)
    sums = [0] * len(told[0])
    for row, places in zip(rows, told):
        sums = [so_far + row[place] for so_far, place in zip(sums, places)]
    return sums


def is_agreed(scenario, family):
    """Whether any two contexts have the same marginal on what they share."""
    rows, _ = over_one(family)
    contexts = scenario[1]
    for at, context in enumerate(contexts):
        for ahead in range(at):
            lot = overlap(contexts[ahead], context)
            one = part_sums(scenario, rows[ahead], contexts[ahead], lot)
            if one != part_sums(scenario, rows[at], context, lot):
                return False
    return True


def marginal_of(scenario, row, whole, lot):
    """The marginal of a row for a lot on a lot within it."""
    rows, bottom = over_one([row])
    return lowest_row(part_sums(scenario, rows[0], whole, lot), bottom)


def family_by(scenario, distribution):
    """The family of a joint distribution."""
    rows, bottom = over_one([distribution])
    return tuple([lowest_row(row, bottom) for row in family_sums(scenario, rows[0])])
