"""Relabellings of a scenario, what they lead, and inequalities that are the same but for names."""

from itertools import permutations

from belltables.errors import InvalidRelabelling, TooMany
from belltables.forms import is_each_once, is_tuple_of
from belltables.guards import need_agreed, need_family, need_scenario
from belltables.inequalities import need_inequality
from belltables.inner import mark_places
from belltables.margins import lowest_margins, normal_by
from belltables.shapes import place_of, sections_in, sizes_of

MOST = 5000


def is_order_form(scenario, value):
    """Whether a value, whatever it is, is the order of some relabelling."""
    outcomes, contexts = scenario
    if not is_each_once(value, len(outcomes)):
        return False
    if any([outcomes[name] != size for name, size in zip(value, outcomes)]):
        return False
    return tuple(sorted([named(value, context) for context in contexts])) == contexts


def named(order, lot):
    """The lot by the new names."""
    return tuple(sorted([order[observable] for observable in lot]))


def is_relabelling_form(scenario, value):
    """Whether a value, whatever it is, is a relabelling of the scenario."""
    if not is_tuple_of(value, 2) or not is_order_form(scenario, value[0]):
        return False
    return is_tuple_of(value[1], len(scenario[0])) and all(
        [is_each_once(turn, size) for turn, size in zip(value[1], scenario[0])])


def need_relabelling(scenario, relabelling):
    """Refuses what is no relabelling of the scenario."""
    if not is_relabelling_form(scenario, relabelling):
        raise InvalidRelabelling(relabelling)


def all_relabellings(scenario):
    """The ascending list of all relabellings, if there are not too many."""
    outcomes = scenario[0]
    orders = [order for order in permutations(range(len(outcomes))) if is_order_form(scenario, order)]
    many = len(orders)
    choices = [list(permutations(range(size))) for size in outcomes]
    for choice in choices:
        many *= len(choice)
    if many > MOST:
        raise TooMany(many)
    turns = [()]
    for choice in choices:
        turns = [turn + (more,) for turn in turns for more in choice]
    return [(order, turn) for order in orders for turn in turns]


def relabellings(scenario):
    """The ascending tuple of all relabellings."""
    need_scenario(scenario)
    return tuple(all_relabellings(scenario))


def led_rows(scenario, relabelling, rows):
    """Rows for the contexts by the new names."""
    order, turns = relabelling
    contexts = scenario[1]
    found = {}
    for context, row in zip(contexts, rows):
        lot = named(order, context)
        sizes = sizes_of(scenario, lot)
        line = list(row)
        for section, number in zip(sections_in(scenario, context), row):
            told = {order[observable]: turns[observable][outcome] for observable, outcome in zip(context, section)}
            line[place_of(sizes, [told[name] for name in lot])] = number
        found[lot] = tuple(line)
    return tuple([found[context] for context in contexts])


def led_family(scenario, relabelling, family):
    """The no-signalling family by the new names."""
    need_scenario(scenario)
    need_relabelling(scenario, relabelling)
    need_family(scenario, family)
    need_agreed(scenario, family)
    return led_rows(scenario, relabelling, family)


def led_inequality(scenario, relabelling, inequality):
    """The inequality by the new names."""
    need_scenario(scenario)
    need_relabelling(scenario, relabelling)
    need_inequality(scenario, inequality)
    return (led_rows(scenario, relabelling, inequality[0]), inequality[1])


def led_margins(outcomes, relabelling, margins):
    """The margins of the global assignments by the new names: a list."""
    order, turns = relabelling
    steps = [0] * len(outcomes)
    step = 1
    for observable in reversed(range(len(outcomes))):
        steps[observable] = step
        step *= outcomes[observable]
    places = [0]
    for name, turn in zip(order, turns):
        places = [place + outcome * steps[name] for place in places for outcome in turn]
    found = list(margins)
    for place, margin in zip(places, margins):
        found[place] = margin
    return found


def led_normals(scenario, inequality, every):
    """The normal forms of an inequality led by these relabellings: a list."""
    places = mark_places(scenario)
    margins = lowest_margins(scenario, inequality)
    return [normal_by(scenario[0], places, led_margins(scenario[0], relabelling, margins)) for relabelling in every]


def canonical(scenario, inequality):
    """The least of the normal forms of all led ones."""
    need_scenario(scenario)
    need_inequality(scenario, inequality)
    return min(led_normals(scenario, inequality, all_relabellings(scenario)))


def between(scenario, one, two):
    """The first relabelling that leads the first inequality to the second one's normal form; None."""
    need_scenario(scenario)
    need_inequality(scenario, one)
    need_inequality(scenario, two)
    every = all_relabellings(scenario)
    wanted = lowest_margins(scenario, two)
    margins = lowest_margins(scenario, one)
    for relabelling in every:
        # Margins without a common divisor are the same exactly if the normal forms are.
        if led_margins(scenario[0], relabelling, margins) == wanted:
            return relabelling
    return None
