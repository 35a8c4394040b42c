"""How a lab is printed, line by line."""

from belltables.errors import InvalidNumber
from belltables.ratios import ZERO
from belltables.shapes import everything, sections_in
from belltables.terms import EVEN, GAME, JOINT, MIX, NAME, OF, POINT, TERM, parts_of

MOST = 10 ** 60


def number_text(number):
    """A fraction as it is printed, but not one that has a number of more than 60 digits."""
    top, bottom = number
    if abs(top) >= MOST or bottom >= MOST:
        raise InvalidNumber(number)
    return str(top) if bottom == 1 else f"{top}/{bottom}"


def word_text(outcomes):
    """A word of outcomes."""
    return "".join([str(outcome) for outcome in outcomes])


def group_text(names, context):
    """The names of a context's observables."""
    return " ".join([names[observable] for observable in context])


def lab_lines(lab):
    """The lines of the lab's text: a list."""
    names, scenario, things = lab
    sizes = [f"{name} {size}" for name, size in zip(names, scenario[0])]
    groups = [group_text(names, context) for context in scenario[1]]
    lines = ["observables " + ", ".join(sizes), "contexts " + "; ".join(groups)]
    for thing in things:
        lines = lines + thing_lines(names, scenario, thing)
    return lines


def thing_lines(names, scenario, thing):
    """The lines of a thing: a list."""
    name, kind, value = thing
    if kind == TERM:
        return [f"{name} = {term_text(names, value)}"]
    if kind == JOINT:
        return [f"{kind} {name}: {parts_text(scenario, everything(scenario), value)}"]
    if kind == GAME:
        return [f"{kind} {name}"] + [
            f"{group_text(names, context)} {number_text(share)}: {wins_text(scenario, context, marks)}"
            for context, share, marks in zip(scenario[1], value[0], value[1])]
    return [f"{kind} {name}"] + table_lines(names, scenario, value)


def table_lines(names, scenario, rows):
    """The lines behind the head of a family or of weights: a list."""
    return [f"{group_text(names, context)}: {parts_text(scenario, context, row)}"
            for context, row in zip(scenario[1], rows)]


def parts_text(scenario, lot, row):
    """The sections of a lot that have a number other than 0, with it."""
    parts = [f"{word_text(section)} {number_text(number)}"
             for section, number in zip(sections_in(scenario, lot), row) if number != ZERO]
    return ", ".join(parts) if parts else "none"


def wins_text(scenario, context, marks):
    """The won sections of a context."""
    words = [word_text(section) for section, mark in zip(sections_in(scenario, context), marks) if mark == 1]
    return " ".join(words) if words else "none"


def term_text(names, term):
    """The words of a term, each ahead of the terms in it."""
    words = []
    left = [term]
    while left:
        now = left.pop()
        words.append(head_text(names, now))
        left = [*left, *parts_of(now)[::-1]]
    return " ".join(words)


def head_text(names, term):
    """The words of a term ahead of the terms in it."""
    word = term[0]
    if word == EVEN:
        return word
    if word == POINT:
        return f"{word} {word_text(term[1])}"
    if word == OF:
        return f"{word} {term[1]}"
    if word == NAME:
        return term[1]
    if word == MIX:
        return f"{word} {number_text(term[1])}"
    return f"{word} {names[term[1]]} {word_text(term[2])}"
