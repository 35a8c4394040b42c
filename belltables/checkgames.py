"""Papers for claims of games, of plans of many rounds, and of inequalities.

Each function takes a claim of as many parts as it has to have, and any paper. It tells whether the claim is so and
the paper one for it; or it raises an error of the package, for parts or papers that are not of the form told.
"""

from belltables.forms import are_sections, is_section_by, is_tuple_of
from belltables.games import classical_value, game_value, game_weights, is_bound_of, need_game
from belltables.guards import need_count, need_fraction, need_scenario, need_share
from belltables.inequalities import is_facet, is_valid, need_inequality, normal
from belltables.inner import marks_at
from belltables.memory import plan_chance
from belltables.ranks import rank_of
from belltables.ratios import is_less, total
from belltables.relabellings import between, led_inequality
from belltables.shapes import place_of
from belltables.tails import tail_of
from belltables.tops import value_at


def takes_winner(claim, paper):
    """A global assignment whose deterministic family has at least the number."""
    _, scenario, game, number = claim
    need_scenario(scenario)
    need_game(scenario, game)
    need_fraction(number)
    return is_section_by(paper, scenario[0]) and (
        not is_less(value_at(scenario, game_weights(game), paper), number))


def takes_wins_less(claim, paper):
    """Nothing, if the classical value is less than the number."""
    _, scenario, game, number = claim
    best = classical_value(scenario, game)[0]
    need_fraction(number)
    return is_tuple_of(paper, 0) and is_less(best, number)


def takes_reaching(claim, paper):
    """A no-signalling family of at least the number."""
    _, scenario, game, number = claim
    need_fraction(number)
    return not is_less(game_value(scenario, game, paper), number)


def takes_bound(claim, paper):
    """A no-signalling bound of the game with a sum below the number."""
    _, scenario, game, number = claim
    need_fraction(number)
    return is_bound_of(scenario, game, paper) and is_less(total(paper[0]), number)


def takes_valid(claim, paper):
    """Nothing, if no deterministic family breaks the inequality."""
    _, scenario, inequality = claim
    return is_valid(scenario, inequality) and is_tuple_of(paper, 0)


def takes_breaker(claim, paper):
    """A global assignment that breaks the inequality."""
    _, scenario, inequality = claim
    need_scenario(scenario)
    need_inequality(scenario, inequality)
    return is_section_by(paper, scenario[0]) and (
        is_less(inequality[1], value_at(scenario, inequality[0], paper)))


def takes_facet(claim, paper):
    """As many global assignments as the dimension which meet the facet, in no lesser flat."""
    _, scenario, inequality = claim
    if not is_facet(scenario, inequality) or not are_sections(paper, scenario[0]):
        return False
    if any([value_at(scenario, inequality[0], assignment) != inequality[1] for assignment in paper]):
        return False
    marks = marks_at(scenario)
    dimension = len(marks[0]) - 1
    # With the 1 in front the rank is one more than the flat's dimension.
    return len(paper) == dimension and (
        rank_of([marks[place_of(scenario[0], assignment)] for assignment in paper]) == dimension)


def takes_no_facet(claim, paper):
    """Nothing, if the inequality is valid, but no facet."""
    _, scenario, inequality = claim
    return is_valid(scenario, inequality) and is_tuple_of(paper, 0) and not is_facet(scenario, inequality)


def takes_relabelling(claim, paper):
    """A relabelling that leads the one inequality to the other one's normal form."""
    _, scenario, one, other = claim
    wanted = normal(scenario, other)
    return normal(scenario, led_inequality(scenario, paper, one)) == wanted


def takes_not_equivalent(claim, paper):
    """Nothing, if no relabelling does."""
    _, scenario, one, other = claim
    return is_tuple_of(paper, 0) and between(scenario, one, other) is None


def need_rounds_claim(claim):
    """Refuses wrong parts of a claim of so many wins or more in so many rounds."""
    _, scenario, game, number, wins, chance = claim
    need_scenario(scenario)
    need_game(scenario, game)
    need_count(number)
    need_count(wins)
    need_share(chance)


def takes_never_more(claim, paper):
    """Nothing, if no plan wins so often with more than the chance."""
    need_rounds_claim(claim)
    _, scenario, game, number, wins, chance = claim
    best = classical_value(scenario, game)[0]
    return is_tuple_of(paper, 0) and not is_less(chance, tail_of(number, wins, best))


def takes_at_times_more(claim, paper):
    """A global assignment which does so, played in all rounds."""
    need_rounds_claim(claim)
    _, scenario, game, number, wins, chance = claim
    return is_section_by(paper, scenario[0]) and (
        is_less(chance, tail_of(number, wins, value_at(scenario, game_weights(game), paper))))


def takes_plan(claim, paper):
    """Nothing, if the plan wins so often with just the chance."""
    _, scenario, game, plan, wins, chance = claim
    need_fraction(chance)
    return is_tuple_of(paper, 0) and plan_chance(scenario, game, plan, wins) == chance


SIZES = {
    "wins": 4, "wins less": 4, "reaches": 4, "reaches less": 4, "valid": 3, "broken": 3, "facet": 3, "no facet": 3,
    "equivalent": 4, "not equivalent": 4, "never more": 6, "at times more": 6, "plan": 6}

TAKES = {
    "wins": takes_winner,
    "wins less": takes_wins_less,
    "reaches": takes_reaching,
    "reaches less": takes_bound,
    "valid": takes_valid,
    "broken": takes_breaker,
    "facet": takes_facet,
    "no facet": takes_no_facet,
    "equivalent": takes_relabelling,
    "not equivalent": takes_not_equivalent,
    "never more": takes_never_more,
    "at times more": takes_at_times_more,
    "plan": takes_plan,
}


def games_take(claim, paper):
    """Whether the claim is one of these, and the paper one for it."""
    word = claim[0]
    if word not in TAKES or len(claim) != SIZES[word]:
        return False
    takes = TAKES[word]
    return takes(claim, paper)
