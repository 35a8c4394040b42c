"""Plans: their form, how many pairs they have, and how they are played."""

from belltables.forms import is_section_by, is_tuple_of
from belltables.ratios import lowest, over_one
from belltables.tops import told_places

MOST_PAIRS = 400


def many_pairs(scenario, number):
    """How many pairs a plan of so many rounds has in all."""
    many = 0
    wide = 1
    for _ in range(number):
        many += wide
        wide *= len(scenario[1])
    return many


def is_pair(scenario, value):
    """Whether a value, whatever it is, is a global assignment and something for each context."""
    return is_tuple_of(value, 2) and is_section_by(value[0], scenario[0]) and is_tuple_of(value[1], len(scenario[1]))


def rounds_of(scenario, value):
    """Of how many rounds a value, whatever it is, is a plan; None for no plan of at most 400 pairs in all."""
    plans = [value]
    rounds = 0
    pairs = 0
    while not all([is_tuple_of(plan, 0) for plan in plans]):
        pairs += len(plans)
        if pairs > MOST_PAIRS or not all([is_pair(scenario, plan) for plan in plans]):
            return None
        plans = [further for plan in plans for further in plan[1]]
        rounds += 1
    return rounds


def constant(scenario, number, assignment):
    """The plan of so many rounds with the same global assignment in all."""
    plan = ()
    for _ in range(number):
        plan = (assignment, (plan,) * len(scenario[1]))
    return plan


def wins_at(scenario, game, assignment):
    """For each context 1 if the global assignment wins there, else 0: a list."""
    return [row[place] for row, place in zip(game[1], told_places(scenario, assignment))]


def chance_to_win(scenario, game, plan, wins):
    """The chance that the plan wins so many rounds or more."""
    rows, bottom = over_one([game[0]])
    whole = 1
    # A way is what is left of the plan, how often it comes, and how many rounds were won on it.
    ways = [(plan, 1, 0)]
    while ways[0][0] != ():
        ways = [way for told in ways for way in further_ways(scenario, game, rows[0], told)]
        whole *= bottom
    return lowest(sum([weight for _, weight, won in ways if won >= wins]), whole)


def further_ways(scenario, game, shares, way):
    """The ways on which the first round's contexts lead on from a way: a list."""
    (assignment, plans), weight, won = way
    marks = wins_at(scenario, game, assignment)
    return [(plan, weight * share, won + mark) for plan, share, mark in zip(plans, shares, marks)]
