"""Parity rows of supports, for observables that have two outcomes each."""

from belltables.arguments import is_argument_form, solution_or_argument
from belltables.errors import Unfit
from belltables.guards import need_scenario, need_support
from belltables.inner import lots_within
from belltables.supports import told_of


def need_pairs(scenario):
    """Refuses a scenario in which some observable has another number of outcomes than two."""
    if any([size != 2 for size in scenario[0]]):
        raise Unfit(scenario[0])


def parity_rows(scenario, support):
    """The ascending tuple of the parity rows of the support."""
    need_scenario(scenario)
    need_support(scenario, support)
    need_pairs(scenario)
    return tuple(rows_of(scenario, support))


def rows_of(scenario, support):
    """The parity rows of the support, in order: a list."""
    found = []
    for at, context in enumerate(scenario[1]):
        for lot in sorted(lots_within(context)):
            parities = {sum(told_of(context, section, lot)) % 2: True for section in support[at]}
            if lot != () and len(parities) == 1:
                found = found + [(at, lot, parity) for parity in parities]
    return found


def solved_or_odd(scenario, support):
    """("solved", GLOBAL), an assignment that solves all parity rows, or ("odd", ROWS), an argument made of them."""
    need_scenario(scenario)
    need_support(scenario, support)
    need_pairs(scenario)
    return solution_or_argument(rows_of(scenario, support), len(scenario[0]))


def is_argument(scenario, value):
    """Whether a value, whatever it is, is an all-versus-nothing argument of parity rows of the scenario's contexts."""
    need_scenario(scenario)
    need_pairs(scenario)
    return is_argument_form(scenario, value)
