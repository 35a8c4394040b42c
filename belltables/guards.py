"""Checks of arguments: each raises the error that the document tells, and returns nothing."""

from belltables.errors import (
    InvalidDistribution, InvalidFamily, InvalidFraction, InvalidLot, InvalidNumber, InvalidScenario, InvalidSupport,
    InvalidWeights, NotAgreed)
from belltables.forms import (
    has_rows, is_distribution_form, is_index, is_lot_of, is_scenario_form, wrong_chances, wrong_numbers,
    wrong_sections)
from belltables.ratios import is_fraction, is_share
from belltables.shapes import is_agreed, is_within

MOST_COUNT = 100


def need_scenario(scenario):
    """Refuses what is no scenario."""
    if not is_scenario_form(scenario):
        raise InvalidScenario(scenario)


def need_family(scenario, family):
    """Refuses what is no family of the scenario."""
    if not has_rows(scenario, family):
        raise InvalidFamily(None)
    wrong = wrong_chances(scenario, family)
    if wrong is not None:
        raise InvalidFamily(wrong)


def need_weights(scenario, weights):
    """Refuses what is no weights of the scenario."""
    if not has_rows(scenario, weights):
        raise InvalidWeights(None)
    wrong = wrong_numbers(scenario, weights)
    if wrong is not None:
        raise InvalidWeights(wrong)


def need_support(scenario, support):
    """Refuses what is no support of the scenario."""
    if not has_rows(scenario, support):
        raise InvalidSupport(None)
    wrong = wrong_sections(scenario, support)
    if wrong is not None:
        raise InvalidSupport(wrong)


def need_distribution(scenario, distribution):
    """Refuses what is no joint distribution of the scenario."""
    if not is_distribution_form(scenario, distribution):
        raise InvalidDistribution(distribution)


def need_context(scenario, context):
    """Refuses what is no index of a context."""
    if not is_index(context, len(scenario[1])):
        raise InvalidNumber(context)


def need_lot(scenario, lot):
    """Refuses what is no lot of observables."""
    if not is_lot_of(lot, len(scenario[0])):
        raise InvalidLot(lot)


def need_lot_within(scenario, lot, context):
    """Refuses what is no lot of observables within the context of this index."""
    need_lot(scenario, lot)
    if not is_within(lot, scenario[1][context]):
        raise InvalidLot(lot)


def need_count(number):
    """Refuses what is no whole number from 0 to 100."""
    if not is_index(number, MOST_COUNT + 1):
        raise InvalidNumber(number)


def need_fraction(number):
    """Refuses what is no fraction."""
    if not is_fraction(number):
        raise InvalidFraction(number)


def need_share(share):
    """Refuses what is no fraction from 0 up to 1."""
    if not is_share(share):
        raise InvalidFraction(share)


def need_agreed(scenario, family):
    """Refuses a family that is not no-signalling."""
    if not is_agreed(scenario, family):
        raise NotAgreed()
