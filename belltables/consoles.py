"""Consoles: lines of text that change a desk, or ask what is on it."""

from belltables.commands import command_told
from belltables.desks import Desk
from belltables.errors import InvalidText, NoContext, NotADesk
from belltables.fractions import contextual_fraction
from belltables.games import game_value
from belltables.hypergraphs import find_obstruction
from belltables.joint import joint_or_inequality
from belltables.logs import counts, log_chance
from belltables.meaning import thing_told
from belltables.memory import level, wins_of
from belltables.printing import group_text, lab_lines, number_text, parts_text, table_lines, word_text
from belltables.shapes import everything, sizes_of
from belltables.standing import rows_in
from belltables.terms import FAMILY, GAME, JOINT, TERM, known_in, need_name
from belltables.wordings import group_told, section_told

DONE = "done"


def put_thing(desk, told):
    """Puts the term or joint distribution of a block behind all things."""
    names, scenario, _ = desk.lab
    name, kind, value = thing_told(names, scenario, known_in(desk.lab), told[0])
    desk.put(name, kind, value)
    return DONE


def drop_thing(desk, told):
    """Takes away the thing of this name."""
    desk.drop(told[0][1])
    return DONE


def order_told(desk, group):
    """The observables of a group that is a context, in the order told."""
    names, scenario, _ = desk.lab
    order = group_told(names, 0, group)
    if tuple(sorted(order)) not in scenario[1]:
        raise NoContext(0, group[0][0])
    return order


def roll_die(desk, told):
    """Logs what a die picks for a context, and answers with it."""
    (_, name), group, die = told
    need_name(desk.lab, name, (FAMILY, JOINT, TERM))
    names, scenario, _ = desk.lab
    context = tuple(sorted(order_told(desk, group)))
    desk.roll(name, scenario[1].index(context), die)
    return f"{group_text(names, context)}: {word_text(desk.log[-1][1])}"


def note_section(desk, told):
    """Logs a section that is told in the order of its group."""
    group, word = told
    scenario = desk.lab[1]
    order = order_told(desk, group)
    section = section_told(sizes_of(scenario, order), 0, word)
    outcomes = {observable: outcome for observable, outcome in zip(order, section)}
    context = tuple(sorted(order))
    desk.note(scenario[1].index(context), tuple([outcomes[observable] for observable in context]))
    return DONE


def clear_log(desk, told):
    """Makes the log empty."""
    desk.clear()
    return DONE


def undo_change(desk, told):
    """Takes back the last change."""
    desk.undo()
    return DONE


def show_lab(desk, told):
    """The lab's text."""
    return "\n".join(lab_lines(desk.lab))


def family_told(desk, word):
    """What the family or term of this name stands for."""
    need_name(desk.lab, word[1], (FAMILY, TERM))
    return rows_in(desk.lab, word[1], desk.lab[1])


def game_told(desk, word):
    """The game of this name."""
    need_name(desk.lab, word[1], (GAME,))
    return [value for name, _, value in desk.lab[2] if name == word[1]][0]


def show_table(desk, told):
    """The lines of the family that the name stands for."""
    names, scenario, _ = desk.lab
    return "\n".join(table_lines(names, scenario, family_told(desk, told[0])))


def show_log(desk, told):
    """For each context that comes how often which sections come."""
    names, scenario, _ = desk.lab
    lines = [f"{group_text(names, context)}: {parts_text(scenario, context, [(many, 1) for many in row])}"
             for context, row in zip(scenario[1], counts(scenario, desk.log)) if any(row)]
    return "\n".join(lines) if lines else "empty"


def show_chance(desk, told):
    """The log's chance."""
    return number_text(log_chance(desk.lab[1], family_told(desk, told[0]), desk.log))


def show_settled(desk, told):
    """The parts of a joint distribution, if there is one."""
    scenario = desk.lab[1]
    word, found = joint_or_inequality(scenario, family_told(desk, told[0]))
    return parts_text(scenario, everything(scenario), found) if word == "joint" else "contextual"


def show_fraction(desk, told):
    """The contextual fraction."""
    return number_text(contextual_fraction(desk.lab[1], family_told(desk, told[0])))


def show_value(desk, told):
    """The game's value."""
    game = game_told(desk, told[0])
    return number_text(game_value(desk.lab[1], game, family_told(desk, told[1])))


def show_wins(desk, told):
    """How many pairs of the log are won, of how many."""
    return f"{wins_of(desk.lab[1], game_told(desk, told[0]), desk.log)} of {len(desk.log)}"


def show_level(desk, told):
    """The level of the log."""
    return number_text(level(desk.lab[1], game_told(desk, told[0]), desk.log))


def show_acyclic(desk, told):
    """Yes, or an obstruction."""
    names, scenario, _ = desk.lab
    found = find_obstruction(scenario)
    return "yes" if found is None else f"{found[0]} {group_text(names, found[1])}"


ANSWERS = {
    "let": put_thing,
    "joint": put_thing,
    "drop": drop_thing,
    "roll": roll_die,
    "note": note_section,
    "clear": clear_log,
    "undo": undo_change,
    "show": show_lab,
    "table": show_table,
    "log": show_log,
    "chance": show_chance,
    "settle": show_settled,
    "fraction": show_fraction,
    "value": show_value,
    "wins": show_wins,
    "level": show_level,
    "acyclic": show_acyclic,
}


class Console:
    """Answers lines of text from a desk."""

    def __init__(self, desk):
        if not isinstance(desk, Desk):
            raise NotADesk(desk)
        self.desk = desk

    def say(self, line):
        """Does what the line says, and answers with a text."""
        if not isinstance(line, str):
            raise InvalidText(None, None)
        word, told = command_told(line)
        answer = ANSWERS[word]
        return answer(self.desk, told)
