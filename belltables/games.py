"""Nonlocal games: their values for families, the classical and the no-signalling value."""

from belltables.bounds import greatest_no_signalling
from belltables.errors import InvalidGame
from belltables.forms import has_rows, is_chance_row, is_row, is_tuple_of
from belltables.guards import need_agreed, need_family, need_scenario
from belltables.handing import are_handed, received
from belltables.parts import greatest_part
from belltables.ratios import ZERO, is_whole, mixed, over_one, product_sum
from belltables.shapes import many_sections
from belltables.tops import first_greatest


def is_game(scenario, value):
    """Whether a value, whatever it is, is a nonlocal game of the scenario."""
    need_scenario(scenario)
    return is_game_form(scenario, value)


def is_game_form(scenario, value):
    """The same for what is known to be a scenario."""
    if not is_tuple_of(value, 2):
        return False
    shares, wins = value
    return is_chance_row(shares, len(scenario[1])) and has_rows(scenario, wins) and all(
        [are_marks(row, many_sections(scenario, context)) for row, context in zip(wins, scenario[1])])


def are_marks(value, many):
    """Whether a value, whatever it is, is a tuple of so many whole numbers 0 and 1."""
    return is_tuple_of(value, many) and all([is_whole(mark) and 0 <= mark <= 1 for mark in value])


def need_game(scenario, game):
    """Refuses what is no nonlocal game of the scenario."""
    if not is_game_form(scenario, game):
        raise InvalidGame(game)


def game_weights(game):
    """The game's value told as weights: a context's share for each section that wins."""
    shares, wins = game
    return tuple([tuple([share if mark == 1 else ZERO for mark in row]) for share, row in zip(shares, wins)])


def game_value(scenario, game, family):
    """The value of the game for a no-signalling family."""
    need_scenario(scenario)
    need_game(scenario, game)
    need_family(scenario, family)
    need_agreed(scenario, family)
    return product_sum(game_weights(game), family)


def classical_value(scenario, game):
    """(NUMBER, ASSIGNMENT): the greatest value of noncontextual families, and the first assignment that has it."""
    need_scenario(scenario)
    need_game(scenario, game)
    return first_greatest(scenario, game_weights(game))


def no_signalling_value(scenario, game):
    """(NUMBER, FAMILY, BOUND): the greatest value of no-signalling families, one that has it, and a bound."""
    need_scenario(scenario)
    need_game(scenario, game)
    rows, bottom = over_one(game_weights(game))
    return greatest_no_signalling(scenario, rows, bottom)


def is_bound_of(scenario, game, value):
    """Whether a value, whatever it is, is a no-signalling bound of the game."""
    need_scenario(scenario)
    need_game(scenario, game)
    return is_bound_form(scenario, value) and keeps_lines(scenario, game_weights(game), value)


def is_bound_form(scenario, value):
    """Whether a value, whatever it is, is a no-signalling bound of the scenario."""
    return is_tuple_of(value, 2) and is_row(value[0], len(scenario[1])) and are_handed(scenario, value[1])


def keeps_lines(scenario, weights, bound):
    """Whether no section of a context has more by the weights than the bound has for it."""
    rows, _ = over_one([*weights, bound[0], *bound[1]])
    many = len(weights)
    for row, number, more in zip(rows[:many], rows[many], received(scenario, rows[many + 1:])):
        if any([worth > number + other for worth, other in zip(row, more)]):
            return False
    return True


def most_value(scenario, game, family):
    """The most that [17] lets the game's value for the family be: each part at its own greatest value."""
    need_scenario(scenario)
    need_game(scenario, game)
    need_family(scenario, family)
    need_agreed(scenario, family)
    part = greatest_part(scenario, family)[0]
    rows, bottom = over_one(game_weights(game))
    classical = first_greatest(scenario, game_weights(game))[0]
    beyond = greatest_no_signalling(scenario, rows, bottom)[0]
    return mixed(part, classical, beyond)
