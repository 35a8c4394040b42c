"""Scenarios, families, joint distributions, marginals and mixtures."""

from belltables.forms import are_weights, is_distribution_form, is_family_form, is_scenario_form
from belltables.guards import (
    need_context, need_distribution, need_family, need_lot, need_lot_within, need_scenario, need_share)
from belltables.ratios import mixed_rows
from belltables.shapes import family_by, is_agreed, marginal_of, sections_in


def is_scenario(value):
    """Whether a value, whatever it is, is a scenario."""
    return is_scenario_form(value)


def sections_of(scenario, lot):
    """The sections of a lot of observables, in order."""
    need_scenario(scenario)
    need_lot(scenario, lot)
    return tuple(sections_in(scenario, lot))


def is_family(scenario, value):
    """Whether a value, whatever it is, is a family of the scenario."""
    need_scenario(scenario)
    return is_family_form(scenario, value)


def is_distribution(scenario, value):
    """Whether a value, whatever it is, is a joint distribution of the scenario."""
    need_scenario(scenario)
    return is_distribution_form(scenario, value)


def is_weights(scenario, value):
    """Whether a value, whatever it is, is weights of the scenario."""
    need_scenario(scenario)
    return are_weights(scenario, value)


def marginal(scenario, family, context, lot):
    """The marginal of a context's row, the context told by its index, on a lot within it."""
    need_scenario(scenario)
    need_family(scenario, family)
    need_context(scenario, context)
    need_lot_within(scenario, lot, context)
    return marginal_of(scenario, family[context], scenario[1][context], lot)


def is_no_signalling(scenario, family):
    """Whether any two contexts have the same marginal on what they share."""
    need_scenario(scenario)
    need_family(scenario, family)
    return is_agreed(scenario, family)


def family_of(scenario, distribution):
    """The family of a joint distribution."""
    need_scenario(scenario)
    need_distribution(scenario, distribution)
    return family_by(scenario, distribution)


def mixture(scenario, one, two, share):
    """The share of the first family with the rest of the second one."""
    need_scenario(scenario)
    need_family(scenario, one)
    need_family(scenario, two)
    need_share(share)
    return mixed_rows(share, one, two)
