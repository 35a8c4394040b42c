"""Games in many rounds, whatever the parts remember: tails, plans, and what the wins of a log show."""

from belltables.errors import InvalidFraction, InvalidLog, InvalidPlan, InvalidSection, TooMany
from belltables.forms import is_section_by
from belltables.games import game_weights, need_game
from belltables.guards import need_count, need_scenario, need_share
from belltables.logs import need_log
from belltables.plans import MOST_PAIRS, chance_to_win, constant, many_pairs, rounds_of
from belltables.ratios import ONE, ZERO, is_less
from belltables.shapes import place_of, sizes_of
from belltables.tails import tail_of
from belltables.tops import first_greatest

MOST_ROUNDS = 100


def tail(number, wins, share):
    """The chance of so many wins or more in so many rounds that are won each with the chance `share`."""
    need_count(number)
    need_count(wins)
    need_share(share)
    return tail_of(number, wins, share)


def is_plan(scenario, number, value):
    """Whether a value, whatever it is, is a plan of so many rounds, of at most 400 pairs in all."""
    need_scenario(scenario)
    need_count(number)
    return rounds_of(scenario, value) == number


def plan_chance(scenario, game, plan, wins):
    """The chance that the plan wins so many rounds of the game or more."""
    need_scenario(scenario)
    need_game(scenario, game)
    need_plan(scenario, plan)
    need_count(wins)
    return chance_to_win(scenario, game, plan, wins)


def need_plan(scenario, plan):
    """Refuses what is no plan of any number of rounds, and one of too many pairs."""
    if rounds_of(scenario, plan) is None:
        raise InvalidPlan(plan)


def constant_plan(scenario, number, assignment):
    """The plan of so many rounds with the same global assignment in all."""
    need_scenario(scenario)
    need_count(number)
    if not is_section_by(assignment, scenario[0]):
        raise InvalidSection(assignment)
    many = many_pairs(scenario, number)
    if many > MOST_PAIRS:
        raise TooMany(many)
    return constant(scenario, number, assignment)


def need_short_log(scenario, log):
    """Refuses what is no log of at most 100 pairs."""
    need_log(scenario, log)
    if len(log) > MOST_ROUNDS:
        raise InvalidLog(None)


def wins_of(scenario, game, log):
    """How many pairs of the log are won."""
    need_scenario(scenario)
    need_game(scenario, game)
    need_short_log(scenario, log)
    return sum([game[1][context][place_of(sizes_of(scenario, scenario[1][context]), section)]
                for context, section in log])


def level(scenario, game, log):
    """The greatest chance that a noncontextual source, whatever it remembers, has of as many wins or more."""
    wins = wins_of(scenario, game, log)
    return tail_of(len(log), wins, first_greatest(scenario, game_weights(game))[0])


def rounds_needed(scenario, game, share):
    """The least number of rounds all of which are won, classically, with a chance of at most `share`; None."""
    need_scenario(scenario)
    need_game(scenario, game)
    need_share(share)
    if share == ZERO:
        raise InvalidFraction(share)
    best = first_greatest(scenario, game_weights(game))[0]
    if best == ONE and share != ONE:
        return None
    for number in range(MOST_ROUNDS + 1):
        if not is_less(share, tail_of(number, number, best)):
            return number
    raise TooMany(share)
