"""Whether a value, whatever it is, has the form that the document tells.

Each function looks at the form from the outside in, so that it can be asked of any value.
"""

from belltables.ratios import ONE, is_chance, is_fraction, is_whole, total
from belltables.shapes import everything, is_within, many_sections, sizes_of


def is_tuple_of(value, many):
    """Whether it is a tuple of so many."""
    return isinstance(value, tuple) and len(value) == many


def is_index(value, many):
    """Whether it is an index of one of so many."""
    return is_whole(value) and 0 <= value < many


def is_ascending(value):
    """Whether each of the tuple, all of which can be compared, is greater than the one before it."""
    return all([value[at - 1] < value[at] for at in range(1, len(value))])


def is_lot_of(value, many):
    """Whether it is an ascending tuple of indexes of so many."""
    return isinstance(value, tuple) and all([is_index(place, many) for place in value]) and is_ascending(value)


def is_each_once(value, many):
    """Whether it is a tuple with the index of each of so many once."""
    return is_tuple_of(value, many) and all([is_index(place, many) for place in value]) and (
        sorted(value) == list(range(many)))


def is_section_by(value, sizes):
    """Whether it is a tuple of an outcome for each of so many outcomes."""
    return is_tuple_of(value, len(sizes)) and all([is_index(outcome, size) for outcome, size in zip(value, sizes)])


def are_sections(value, sizes):
    """Whether it is an ascending tuple of one or more such tuples of outcomes."""
    return isinstance(value, tuple) and len(value) > 0 and (
        all([is_section_by(section, sizes) for section in value]) and is_ascending(value))


def are_outcomes(value):
    """Whether it tells how many outcomes the observables of some scenario have."""
    if not isinstance(value, tuple) or not 1 <= len(value) <= 6:
        return False
    many = 1
    for size in value:
        if not is_whole(size) or not 2 <= size <= 4:
            return False
        many *= size
    return many <= 64


def are_contexts(value, many):
    """Whether it is the tuple of contexts of some scenario of so many observables."""
    if not isinstance(value, tuple):
        return False
    for context in value:
        if not is_lot_of(context, many) or len(context) == 0:
            return False
    if not is_ascending(value):
        return False
    for observable in range(many):
        if not any([observable in context for context in value]):
            return False
    return not is_within_another(value)


def is_within_another(contexts):
    """Whether one of unlike contexts is within another one."""
    return any([is_within(one, other) for one in contexts for other in contexts if one != other])


def is_scenario_form(value):
    """Whether it is a scenario."""
    return is_tuple_of(value, 2) and are_outcomes(value[0]) and are_contexts(value[1], len(value[0]))


def is_row(value, many):
    """Whether it is a row of so many fractions."""
    return is_tuple_of(value, many) and all([is_fraction(number) for number in value])


def is_chance_row(value, many):
    """Whether it is a row of so many fractions from 0 on, of sum 1."""
    return is_tuple_of(value, many) and all([is_chance(number) for number in value]) and total(value) == ONE


def has_rows(scenario, value):
    """Whether it is a tuple of as many as the scenario has contexts."""
    return is_tuple_of(value, len(scenario[1]))


def first_wrong(marks):
    """The index of the first mark that is False; None."""
    for at, is_right in enumerate(marks):
        if not is_right:
            return at
    return None


def wrong_chances(scenario, value):
    """The index of the first of as many as contexts that is no row of a family there; None."""
    return first_wrong([is_chance_row(row, many_sections(scenario, context))
                        for row, context in zip(value, scenario[1])])


def wrong_numbers(scenario, value):
    """The index of the first of as many as contexts that is no row of weights there; None."""
    return first_wrong([is_row(row, many_sections(scenario, context))
                        for row, context in zip(value, scenario[1])])


def wrong_sections(scenario, value):
    """The index of the first of as many as contexts that is no row of a support there; None."""
    return first_wrong([are_sections(row, sizes_of(scenario, context)) for row, context in zip(value, scenario[1])])


def is_family_form(scenario, value):
    """Whether it is a family of the scenario."""
    return has_rows(scenario, value) and wrong_chances(scenario, value) is None


def are_weights(scenario, value):
    """Whether it is weights of the scenario."""
    return has_rows(scenario, value) and wrong_numbers(scenario, value) is None


def is_support_form(scenario, value):
    """Whether it is a support of the scenario."""
    return has_rows(scenario, value) and wrong_sections(scenario, value) is None


def is_distribution_form(scenario, value):
    """Whether it is a joint distribution of the scenario."""
    return is_chance_row(value, many_sections(scenario, everything(scenario)))
