"""Bell inequalities: valid ones, facets, and the normal form."""

from belltables.errors import InvalidInequality
from belltables.forms import are_weights, is_tuple_of
from belltables.guards import need_scenario, need_weights
from belltables.inner import inner_sections, marks_at
from belltables.margins import lowest_margins, normal_of
from belltables.ranks import rank_of
from belltables.ratios import is_fraction
from belltables.tops import first_greatest


def is_inequality(scenario, value):
    """Whether a value, whatever it is, is an inequality of the scenario."""
    need_scenario(scenario)
    return is_inequality_form(scenario, value)


def is_inequality_form(scenario, value):
    """The same for what is known to be a scenario."""
    return is_tuple_of(value, 2) and are_weights(scenario, value[0]) and is_fraction(value[1])


def need_inequality(scenario, inequality):
    """Refuses what is no inequality of the scenario."""
    if not is_inequality_form(scenario, inequality):
        raise InvalidInequality(inequality)


def greatest(scenario, weights):
    """(NUMBER, ASSIGNMENT): the greatest value of deterministic families, and the first assignment that has it."""
    need_scenario(scenario)
    need_weights(scenario, weights)
    return first_greatest(scenario, weights)


def is_valid(scenario, inequality):
    """Whether no deterministic family has a value above the bound."""
    need_scenario(scenario)
    need_inequality(scenario, inequality)
    return min(lowest_margins(scenario, inequality)) >= 0


def dimension(scenario):
    """How many inner sections all lots have together."""
    need_scenario(scenario)
    return len(inner_sections(scenario))


def is_facet(scenario, inequality):
    """Whether it is valid, tight and met by deterministic families that lie in no flat of less than the dimension
    less 1, but not by all.
    """
    need_scenario(scenario)
    need_inequality(scenario, inequality)
    margins = lowest_margins(scenario, inequality)
    if min(margins) < 0:
        return False
    marks = marks_at(scenario)
    met = [row for row, margin in zip(marks, margins) if margin == 0]
    # With the 1 in front the rank is one more than the flat's dimension; all marks together have the rank of the
    # dimension and 1, so an inequality met by all is told apart by it, too.
    return rank_of(met) == len(marks[0]) - 1


def normal(scenario, inequality):
    """The normal form: (COEFFICIENTS, BOUND)."""
    need_scenario(scenario)
    need_inequality(scenario, inequality)
    return normal_of(scenario, lowest_margins(scenario, inequality))
