"""From the words of a text that has the right form to a lab, or to the first error, line by line, word by word."""

from belltables.errors import InvalidScenario, NoContext, NoSum, TwiceNamed
from belltables.forms import is_scenario_form
from belltables.ratios import ONE, ZERO, minus, total
from belltables.shapes import everything, many_sections, place_of, sizes_of
from belltables.terms import FAMILY, GAME, JOINT, TERM, known_with
from belltables.wordings import group_told, section_told, term_told


def lab_told(observables, groups, blocks):
    """The lab that the words of a text tell."""
    names = names_told(observables)
    scenario = scenario_told(names, observables, groups)
    known = {}
    things = []
    for block in blocks:
        thing = thing_told(names, scenario, known, block)
        known = known_with(scenario, known, thing)
        things.append(thing)
    return (names, scenario, tuple(things))


def thing_told(names, scenario, known, block):
    """The thing that a block tells, behind those known."""
    line, kind, (place, name), told = block
    if name in names or name in known:
        raise TwiceNamed(line, place)
    return (name, kind, value_told(names, scenario, known, (line, kind, told)))


def names_told(observables):
    """The names of the observables."""
    names = ()
    for (place, name), _ in observables:
        if name in names:
            raise TwiceNamed(0, place)
        names = names + (name,)
    return names


def scenario_told(names, observables, groups):
    """The scenario of the first two lines."""
    contexts = sorted([tuple(sorted(group_told(names, 1, group))) for group in groups])
    scenario = (tuple([int(size) for _, size in observables]), tuple(contexts))
    if not is_scenario_form(scenario):
        raise InvalidScenario(scenario)
    return scenario


def value_told(names, scenario, known, block):
    """The value of the thing that a block (LINE, KIND, TOLD) tells."""
    line, kind, told = block
    if kind == TERM:
        return term_told(names, scenario, known, line, told)
    if kind == JOINT:
        whole = everything(scenario)
        return chances_told(line, told, numbers_told(scenario, line, whole, told), many_sections(scenario, whole))
    table = table_told(names, scenario, block)
    if kind != GAME:
        return tuple([table[context] for context in scenario[1]])
    shares = {context: row[1][1] for context, row in zip(table, told)}
    if total(list(shares.values())) != ONE:
        raise NoSum(line + 1, told[0][1][0])
    return (tuple([shares[context] for context in scenario[1]]), tuple([table[context] for context in scenario[1]]))


def table_told(names, scenario, block):
    """For each context, in the order of a block's lines, the row that its line tells: a dict."""
    line, kind, told = block
    table = {}
    for group, _, parts in told:
        line += 1
        order = group_told(names, line, group)
        context = tuple(sorted(order))
        if context not in scenario[1]:
            raise NoContext(line, 0)
        if context in table:
            raise TwiceNamed(line, 0)
        numbers = numbers_told(scenario, line, order, parts)
        many = many_sections(scenario, context)
        if kind == FAMILY:
            table[context] = chances_told(line, parts, numbers, many)
        elif kind == GAME:
            table[context] = tuple([1 if place in numbers else 0 for place in range(many)])
        else:
            table[context] = tuple([numbers.get(place, ZERO) for place in range(many)])
    return table


def numbers_told(scenario, line, order, parts):
    """For the places of the sections that a line's parts tell their numbers, None for those without: a dict.

    The words of outcomes are in the order told, the places are those of the sections of the ascending lot.
    """
    lot = sorted(order)
    found = {}
    for word, number in parts:
        section = section_told(sizes_of(scenario, order), line, word)
        told = {observable: outcome for observable, outcome in zip(order, section)}
        place = place_of(sizes_of(scenario, lot), [told[observable] for observable in lot])
        if place in found:
            raise TwiceNamed(line, word[0])
        found[place] = None if number is None else number[1]
    return found


def chances_told(line, parts, numbers, many):
    """The row of chances of so many sections with these numbers at their places, None being what is left to 1."""
    rest = minus(ONE, total([numbers[place] for place in numbers if numbers[place] is not None]))
    has_rest = parts[-1][1][1] is None
    if rest[0] < 0 or (rest != ZERO and not has_rest):
        raise NoSum(line, parts[0][1][0])
    row = [numbers.get(place, ZERO) for place in range(many)]
    return tuple([rest if number is None else number for number in row])
