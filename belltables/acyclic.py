"""Vorob'ev's theorem: the scenarios in which every no-signalling family is noncontextual."""

from belltables.errors import InvalidObstruction, InvalidReduction
from belltables.guards import need_agreed, need_family, need_scenario
from belltables.hypergraphs import (
    CYCLE, find_obstruction, find_reduction, is_obstruction_form, is_reduction_form)
from belltables.ratios import ONE, ZERO, lowest
from belltables.shapes import (
    all_tellings, everything, marginal_of, overlap, sections_in, tellings)


def is_acyclic(scenario):
    """Whether the scenario has a Graham reduction."""
    need_scenario(scenario)
    return find_reduction(scenario[1]) is not None


def reduction(scenario):
    """A Graham reduction, its contexts told by their indexes; None."""
    need_scenario(scenario)
    return find_reduction(scenario[1])


def is_reduction(scenario, value):
    """Whether a value, whatever it is, is a Graham reduction of the scenario."""
    need_scenario(scenario)
    return is_reduction_form(scenario[1], value)


def joint_along(scenario, family, reduction):
    """The joint distribution of a no-signalling family along a Graham reduction."""
    need_scenario(scenario)
    need_family(scenario, family)
    if not is_reduction_form(scenario[1], reduction):
        raise InvalidReduction(reduction)
    need_agreed(scenario, family)
    tops = [[row[place] for place in places] for row, places in zip(family, all_tellings(scenario))]
    bottoms = [shared_chances(scenario, family, context, into) for context, into in reduction]
    return tuple([over_all([row[at] for row in tops], [row[at] for row in bottoms]) for at in range(len(tops[0]))])


def shared_chances(scenario, family, context, into):
    """For each global assignment the chance of what it tells of all that two contexts share: a list."""
    lot = overlap(scenario[1][context], scenario[1][into])
    row = marginal_of(scenario, family[context], scenario[1][context], lot)
    return [row[place] for place in tellings(scenario, everything(scenario), lot)]


def over_all(tops, bottoms):
    """The product of the first fractions over that of the other ones; 0 where one of these is 0."""
    top, bottom = ONE
    for number in bottoms:
        if number == ZERO:
            return ZERO
        top, bottom = top * number[1], bottom * number[0]
    for number in tops:
        top, bottom = top * number[0], bottom * number[1]
    return lowest(top, bottom)


def obstruction(scenario):
    """An obstruction of the scenario; None."""
    need_scenario(scenario)
    return find_obstruction(scenario)


def is_obstruction(scenario, value):
    """Whether a value, whatever it is, is an obstruction of the scenario."""
    need_scenario(scenario)
    return is_obstruction_form(scenario, value)


def family_against(scenario, obstruction):
    """The no-signalling family of an obstruction; its contextual fraction is 1."""
    need_scenario(scenario)
    if not is_obstruction_form(scenario, obstruction):
        raise InvalidObstruction(obstruction)
    return tuple([against_row(scenario, obstruction, context) for context in scenario[1]])


def against_row(scenario, against, context):
    """The row of a context in the family of an obstruction."""
    lot = overlap(context, tuple(sorted(against[1])))
    row = []
    for section in sections_in(scenario, context):
        outcomes = [outcome for observable, outcome in zip(context, section) if observable in lot]
        # What is in the obstruction has the outcome 0 or 1, all else has 0.
        if max(outcomes, default=0) > 1 or sum(outcomes) != sum(section):
            row.append(ZERO)
        else:
            row.append(against_chance(against, lot, outcomes))
    return tuple(row)


def against_chance(against, lot, outcomes):
    """The chance of outcomes, each 0 or 1, of observables of an obstruction that lie in one context."""
    kind, observables = against
    if kind == CYCLE:
        return ring_chance(observables, lot, outcomes)
    beside = len(observables) - 1
    if sum(outcomes) == 0:
        return lowest(beside - len(lot), beside)
    return (1, beside) if sum(outcomes) == 1 else ZERO


def ring_chance(ring, lot, outcomes):
    """The same for a cycle: neighbours are alike, but the first and the last one unlike."""
    if len(lot) == 0:
        return ONE
    if len(lot) == 1:
        return (1, 2)
    are_ends = ring[0] in lot and ring[-1] in lot
    return ZERO if (outcomes[0] == outcomes[1]) == are_ends else (1, 2)
