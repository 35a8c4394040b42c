"""Free operations: wirings of a scenario to another one, and scenarios side by side."""

from belltables.errors import InvalidScenario, InvalidWiring
from belltables.forms import is_index, is_scenario_form, is_tuple_of
from belltables.guards import need_agreed, need_family, need_scenario
from belltables.ratios import ZERO, plus, times
from belltables.shapes import (
    assignments_of, is_together, is_within, many_sections, marginal_of, place_of, sizes_of)

TELL = "tell"
MEASURE = "measure"
DEEPEST = 3


def is_wiring(scenario, other, value):
    """Whether a value, whatever it is, is a wiring from the scenario to the other one."""
    need_scenario(scenario)
    need_scenario(other)
    return is_wiring_form(scenario, other, value)


def is_wiring_form(scenario, other, value):
    """The same for what are known to be scenarios."""
    return is_tuple_of(value, len(other[0])) and (
        all([is_tree(scenario[0], many, (), tree) for tree, many in zip(value, other[0])])
        and measures_together(scenario, other, value))


def is_tree(outcomes, many, ahead, value):
    """Whether a value, whatever it is, is the rest of a measuring tree behind what is measured ahead on its way."""
    if is_telling(many, value):
        return True
    if len(ahead) == DEEPEST or not is_measuring(outcomes, value):
        return False
    observable, trees = value[1], value[2]
    return observable not in ahead and all([is_tree(outcomes, many, ahead + (observable,), tree) for tree in trees])


def is_telling(many, value):
    """Whether a value, whatever it is, tells one of so many outcomes."""
    return is_tuple_of(value, 2) and isinstance(value[0], str) and value[0] == TELL and is_index(value[1], many)


def is_measuring(outcomes, value):
    """Whether a value, whatever it is, measures an observable and has something for each of its outcomes."""
    return is_tuple_of(value, 3) and isinstance(value[0], str) and value[0] == MEASURE and (
        is_index(value[1], len(outcomes)) and is_tuple_of(value[2], outcomes[value[1]]))


def measures_together(scenario, other, trees):
    """Whether on all ways through the trees of a context all that is measured lies in one context.

    Ways on which what is measured twice comes out alike are just those that some global assignment leads on.
    """
    for assignment in assignments_of(scenario):
        for context in other[1]:
            if not is_together(scenario[1], way_through(trees, context, assignment)[0]):
                return False
    return True


def way_through(trees, context, assignment):
    """(LOT, TOLD): what is measured, and what is told, on the ways of a context that the assignment leads on."""
    measured = {}
    told = []
    for observable in context:
        tree = trees[observable]
        while tree[0] == MEASURE:
            measured[tree[1]] = True
            tree = tree[2][assignment[tree[1]]]
        told.append(tree[1])
    return tuple(sorted(measured)), told


def need_wiring(scenario, other, wiring):
    """Refuses what is no wiring from the scenario to the other one."""
    if not is_wiring_form(scenario, other, wiring):
        raise InvalidWiring(wiring)


def wired(scenario, other, wiring, family):
    """The no-signalling family wired: one of the other scenario."""
    need_scenario(scenario)
    need_scenario(other)
    need_wiring(scenario, other, wiring)
    need_family(scenario, family)
    need_agreed(scenario, family)
    return tuple([wired_row(scenario, other, wiring, family, context) for context in other[1]])


def wired_row(scenario, other, wiring, family, context):
    """The row of one of the other scenario's contexts in the family wired."""
    row = [ZERO] * many_sections(other, context)
    sizes = sizes_of(other, context)
    marginals = {}
    seen = {}
    for assignment in assignments_of(scenario):
        lot, told = way_through(wiring, context, assignment)
        section = tuple([assignment[observable] for observable in lot])
        # Assignments that tell the same of what is measured are led on the same ways, which count once.
        if (lot, section) not in seen:
            seen[(lot, section)] = True
            if lot not in marginals:
                marginals[lot] = lot_chances(scenario, family, lot)
            place = place_of(sizes, told)
            row[place] = plus(row[place], marginals[lot][place_of(sizes_of(scenario, lot), section)])
    return tuple(row)


def lot_chances(scenario, family, lot):
    """The marginal of a no-signalling family on a lot that lies in a context: any such context has the same."""
    for context, row in zip(scenario[1], family):
        if is_within(lot, context):
            return marginal_of(scenario, row, context, lot)
    return None


def beside(scenario, other):
    """The two scenarios side by side."""
    need_scenario(scenario)
    need_scenario(other)
    return side_by_side(scenario, other)


def side_by_side(scenario, other):
    """The two scenarios side by side, if that is a scenario."""
    many = len(scenario[0])
    moved = [tuple([many + observable for observable in context]) for context in other[1]]
    told = (scenario[0] + other[0], tuple([context + more for context in scenario[1] for more in moved]))
    if not is_scenario_form(told):
        raise InvalidScenario(told)
    return told


def beside_families(scenario, family, other, second):
    """The two no-signalling families side by side."""
    need_scenario(scenario)
    need_family(scenario, family)
    need_scenario(other)
    need_family(other, second)
    side_by_side(scenario, other)
    need_agreed(scenario, family)
    need_agreed(other, second)
    return tuple([tuple([times(number, beyond) for number in row for beyond in line])
                  for row in family for line in second])
