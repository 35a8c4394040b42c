"""How much of a family is contextual, with papers both ways."""

from belltables.forms import are_weights
from belltables.guards import need_agreed, need_family, need_scenario
from belltables.parts import greatest_part
from belltables.ratios import ONE, lowest_row, minus, over_one
from belltables.shapes import assignment_sums, family_sums


def noncontextual_fraction(scenario, family):
    """The pair of the noncontextual fraction and a row of numbers for global assignments that has it as its sum."""
    need_scenario(scenario)
    need_family(scenario, family)
    number, row, _ = greatest_part(scenario, family)
    return (number, row)


def contextual_fraction(scenario, family):
    """1 less the noncontextual fraction."""
    return minus(ONE, noncontextual_fraction(scenario, family)[0])


def covering(scenario, family):
    """A covering whose value in the family is the noncontextual fraction."""
    need_scenario(scenario)
    need_family(scenario, family)
    return greatest_part(scenario, family)[2]


def is_covering(scenario, value):
    """Whether a value, whatever it is, is a covering."""
    need_scenario(scenario)
    if not are_weights(scenario, value):
        return False
    rows, bottom = over_one(value)
    if any([number < 0 for row in rows for number in row]):
        return False
    return min(assignment_sums(scenario, rows)) >= bottom


def rest_of(scenario, family):
    """What a greatest noncontextual part leaves over, divided by the contextual fraction; None if nothing is left."""
    need_scenario(scenario)
    need_family(scenario, family)
    need_agreed(scenario, family)
    fraction, row, _ = greatest_part(scenario, family)
    if fraction == ONE:
        return None
    left = minus(ONE, fraction)
    rows, bottom = over_one([*family, row])
    parts = family_sums(scenario, rows[-1])
    return tuple([lowest_row([(number - part) * left[1] for number, part in zip(one, other)], bottom * left[0])
                  for one, other in zip(rows, parts)])
