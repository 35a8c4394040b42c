"""Names, terms and labs: their forms, and how many terms are within a term.

What is told ahead of a term is known by a dict: for the name of each thing the pair (KIND, MANY), MANY how many terms
are within it if it is a term, those of the terms that it tells by name, too; else 0.
"""

from belltables.errors import InvalidLab, InvalidName
from belltables.forms import (
    are_weights, is_distribution_form, is_each_once, is_family_form, is_index, is_scenario_form, is_section_by,
    is_tuple_of)
from belltables.games import is_game_form
from belltables.ratios import is_share

FAMILY = "family"
JOINT = "joint"
WEIGHTS = "weights"
GAME = "game"
TERM = "term"
KINDS = ("family", "joint", "weights", "game", "term")
EVEN = "even"
POINT = "point"
OF = "of"
NAME = "name"
MIX = "mix"
TURN = "turn"
DIGITS = "0123456789"
SMALL_LETTERS = "abcdefghijklmnopqrstuvwxyz"
RESERVED = (
    "observables", "contexts", "family", "weights", "game", "joint", "of", "even", "point", "mix", "turn", "rest",
    "none")
LONGEST_NAME = 12
MOST_THINGS = 20
MOST_WITHIN = 40
MOST_COUNTED = 200


def is_name(value):
    """Whether a value, whatever it is, is a name."""
    if not isinstance(value, str) or not 1 <= len(value) <= LONGEST_NAME or value in RESERVED:
        return False
    return value[0] in SMALL_LETTERS and all([sign in SMALL_LETTERS or sign in DIGITS for sign in value])


def is_known(known, value, kinds):
    """Whether a value, whatever it is, is the name of a thing told ahead, of one of these kinds."""
    return isinstance(value, str) and value in known and known[value][0] in kinds


def is_head(scenario, known, value):
    """Whether a value, whatever it is, is a term as far as can be told without the terms in it."""
    if not isinstance(value, tuple) or len(value) == 0 or not isinstance(value[0], str):
        return False
    word = value[0]
    if word == EVEN:
        return len(value) == 1
    if word == POINT:
        return len(value) == 2 and is_section_by(value[1], scenario[0])
    if word == OF:
        return len(value) == 2 and is_known(known, value[1], (JOINT,))
    if word == NAME:
        return len(value) == 2 and is_known(known, value[1], (FAMILY, TERM))
    if word == MIX:
        return len(value) == 4 and is_share(value[1])
    return word == TURN and len(value) == 4 and is_index(value[1], len(scenario[0])) and (
        is_each_once(value[2], scenario[0][value[1]]))


def parts_of(term):
    """The terms right within a term, in order: a tuple."""
    if term[0] == MIX:
        return term[2:]
    if term[0] == TURN:
        return term[3:]
    return ()


def counted(known, term):
    """How many terms a term counts by itself, without those within it."""
    return 1 + (known[term[1]][1] if term[0] == NAME else 0)


def many_counted(scenario, known, value):
    """How many terms are within a term, those told by name, too; None for a value, whatever it is, that is no term."""
    left = [value]
    many = counted_all = 0
    while left:
        term = left.pop()
        if not is_head(scenario, known, term):
            return None
        many += 1
        counted_all += counted(known, term)
        # A value may hold one and the same term in very many places, so it is not looked at further.
        if many > MOST_WITHIN or counted_all > MOST_COUNTED:
            return None
        left = [*left, *parts_of(term)]
    return counted_all


def is_value_of(scenario, known, kind, value):
    """Whether a value, whatever it is, is one of a kind of things, whatever that is."""
    if not isinstance(kind, str):
        return False
    if kind == FAMILY:
        return is_family_form(scenario, value)
    if kind == JOINT:
        return is_distribution_form(scenario, value)
    if kind == WEIGHTS:
        return are_weights(scenario, value)
    if kind == GAME:
        return is_game_form(scenario, value)
    return kind == TERM and many_counted(scenario, known, value) is not None


def is_thing(scenario, known, value):
    """Whether a value, whatever it is, is a thing behind those known."""
    if not is_tuple_of(value, 3) or not is_name(value[0]) or value[0] in known:
        return False
    return is_value_of(scenario, known, value[1], value[2])


def known_with(scenario, known, thing):
    """What is known behind a thing."""
    name, kind, value = thing
    return {**known, name: (kind, many_counted(scenario, known, value) if kind == TERM else 0)}


def known_in(lab):
    """What is known behind all things of a lab."""
    known = {}
    for thing in lab[2]:
        known = known_with(lab[1], known, thing)
    return known


def are_names(value, many):
    """Whether a value, whatever it is, is a tuple of so many unlike names."""
    return is_tuple_of(value, many) and all([is_name(name) for name in value]) and len(set(value)) == many


def is_lab_form(value):
    """Whether a value, whatever it is, is a lab."""
    if not is_tuple_of(value, 3):
        return False
    names, scenario, things = value
    if not is_scenario_form(scenario) or not are_names(names, len(scenario[0])):
        return False
    return isinstance(things, tuple) and len(things) <= MOST_THINGS and are_things(names, scenario, things)


def are_things(names, scenario, things):
    """Whether all of a tuple are things, one behind the other, none of them with an observable's name."""
    known = {}
    for thing in things:
        if not is_thing(scenario, known, thing) or thing[0] in names:
            return False
        known = known_with(scenario, known, thing)
    return True


def need_lab(lab):
    """Refuses what is no lab."""
    if not is_lab_form(lab):
        raise InvalidLab(lab)


def kinds_in(lab):
    """What is known of all things of a lab but how many terms are within terms."""
    return {name: (kind, 0) for name, kind, _ in lab[2]}


def need_name(lab, name, kinds):
    """Refuses what is no name of a thing of one of these kinds."""
    if not is_known(kinds_in(lab), name, kinds):
        raise InvalidName(name)
