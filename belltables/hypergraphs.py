"""Graham reductions and obstructions of scenarios: looked for, and looked at."""

from itertools import combinations, permutations

from belltables.forms import is_ascending, is_index, is_lot_of, is_tuple_of
from belltables.shapes import is_together, is_within, overlap

CYCLE = "cycle"
SIMPLEX = "simplex"


def can_go(contexts, left, context, into):
    """Whether a context can be taken away into another one, all told by indexes, while those in `left` are there."""
    for other in left:
        if other != context and not is_within(overlap(contexts[context], contexts[other]), contexts[into]):
            return False
    return True


def find_step(contexts, left):
    """A pair (CONTEXT, INTO) by which one of those in `left` can be taken away; None."""
    for context in left:
        for into in left:
            if into != context and can_go(contexts, left, context, into):
                return (context, into)
    return None


def find_reduction(contexts):
    """A Graham reduction; None. Any step that can be made is right, so nothing has to be tried twice."""
    left = list(range(len(contexts)))
    steps = []
    while len(left) > 1:
        step = find_step(contexts, left)
        if step is None:
            return None
        steps.append(step)
        left.remove(step[0])
    return tuple(steps)


def is_step(contexts, left, value):
    """Whether a value is a pair by which one of those in `left` can be taken away."""
    if not is_tuple_of(value, 2) or not all([is_index(place, len(contexts)) for place in value]):
        return False
    context, into = value
    return context != into and context in left and into in left and can_go(contexts, left, context, into)


def is_reduction_form(contexts, value):
    """Whether a value, whatever it is, is a Graham reduction."""
    if not is_tuple_of(value, len(contexts) - 1):
        return False
    left = list(range(len(contexts)))
    for step in value:
        if not is_step(contexts, left, step):
            return False
        left.remove(step[0])
    return True


def are_neighbours(many, one, two):
    """Whether two places, the first one the lesser, stand beside one another in a ring of so many."""
    return two - one == 1 or (one == 0 and two == many - 1)


def is_ring(contexts, ring):
    """Whether just the neighbours of a ring of four or more unlike observables are in one context together.

    So no three of them are in one context, as two of any three are no neighbours.
    """
    if ring[0] != min(ring) or ring[1] > ring[-1]:
        return False
    for two in range(len(ring)):
        for one in range(two):
            if is_together(contexts, (ring[one], ring[two])) != are_neighbours(len(ring), one, two):
                return False
    return True


def is_hollow(contexts, lot):
    """Whether the lot lies in no context, but does so when any one of it is left out."""
    if is_together(contexts, lot):
        return False
    return all([is_together(contexts, lot[:at] + lot[at + 1:]) for at in range(len(lot))])


def find_obstruction(scenario):
    """An obstruction of the scenario; None."""
    outcomes, contexts = scenario
    observables = list(range(len(outcomes)))
    for many in range(3, len(outcomes) + 1):
        for lot in combinations(observables, many):
            if is_hollow(contexts, lot):
                return (SIMPLEX, lot)
    for many in range(4, len(outcomes) + 1):
        for ring in permutations(observables, many):
            if is_ring(contexts, ring):
                return (CYCLE, ring)
    return None


def is_obstruction_form(scenario, value):
    """Whether a value, whatever it is, is an obstruction of the scenario."""
    if not is_tuple_of(value, 2) or not isinstance(value[0], str) or not isinstance(value[1], tuple):
        return False
    kind, observables = value
    many = len(scenario[0])
    if kind == SIMPLEX:
        return is_lot_of(observables, many) and len(observables) >= 3 and is_hollow(scenario[1], observables)
    return kind == CYCLE and are_unlike(observables, many) and len(observables) >= 4 and (
        is_ring(scenario[1], observables))


def are_unlike(values, many):
    """Whether the tuple has indexes of so many, none of them twice."""
    return all([is_index(place, many) for place in values]) and is_ascending(sorted(values))
