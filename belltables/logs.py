"""Runs and logs: what dice pick, how often sections come, and how likely a log is."""

from belltables.errors import InvalidLog, InvalidNumber, InvalidRounds, InvalidRow
from belltables.forms import first_wrong, is_chance_row, is_index, is_section_by, is_tuple_of
from belltables.guards import need_distribution, need_family, need_scenario
from belltables.ratios import bottom_of, lowest, lowest_row, minus, over, total
from belltables.shapes import (
    assignments_of, many_sections, marginal_of, overlap, pairs_of, place_of, sections_in, sizes_of)

MOST = 400
WIDEST = 64
END = 10 ** 60


def is_die(value):
    """Whether a value, whatever it is, is a die."""
    return is_index(value, END)


def is_round(scenario, value):
    """Whether a value, whatever it is, is a round."""
    return is_tuple_of(value, 2) and is_index(value[0], len(scenario[1])) and is_die(value[1])


def is_entry(scenario, value):
    """Whether a value, whatever it is, is a pair of a log."""
    return is_tuple_of(value, 2) and is_index(value[0], len(scenario[1])) and (
        is_section_by(value[1], sizes_of(scenario, scenario[1][value[0]])))


def need_rounds(scenario, rounds):
    """Refuses what is no tuple of rounds."""
    if not isinstance(rounds, tuple) or len(rounds) > MOST:
        raise InvalidRounds(None)
    wrong = first_wrong([is_round(scenario, told) for told in rounds])
    if wrong is not None:
        raise InvalidRounds(wrong)


def need_log(scenario, log):
    """Refuses what is no log."""
    if not isinstance(log, tuple) or len(log) > MOST:
        raise InvalidLog(None)
    wrong = first_wrong([is_entry(scenario, told) for told in log])
    if wrong is not None:
        raise InvalidLog(wrong)


def pick(row, die):
    """The index that a die picks from a row of chances."""
    if not isinstance(row, tuple) or not 1 <= len(row) <= WIDEST or not is_chance_row(row, len(row)):
        raise InvalidRow(row)
    if not is_die(die):
        raise InvalidNumber(die)
    return picked(wheel_of(row), die)


def wheel_of(row):
    """The least common multiple of the denominators, and the chances times it: a list."""
    bottom = bottom_of(row)
    return [bottom, *over(row, bottom)]


def picked(wheel, die):
    """The index that a die picks."""
    left = die % wheel[0]
    for at, number in enumerate(wheel[1:]):
        left -= number
        if left < 0:
            return at
    return None


def play(scenario, family, rounds):
    """The log of rounds with a family."""
    need_scenario(scenario)
    need_family(scenario, family)
    need_rounds(scenario, rounds)
    sections = [sections_in(scenario, context) for context in scenario[1]]
    wheels = [wheel_of(row) for row in family]
    return tuple([(context, sections[context][picked(wheels[context], die)]) for context, die in rounds])


def play_joint(scenario, distribution, rounds):
    """(LOG, HIDDEN): the log of rounds with a joint distribution, and the global assignments that were picked."""
    need_scenario(scenario)
    need_distribution(scenario, distribution)
    need_rounds(scenario, rounds)
    assignments = assignments_of(scenario)
    wheel = wheel_of(distribution)
    hidden = tuple([assignments[picked(wheel, die)] for _, die in rounds])
    told = [(context, tuple([assignment[observable] for observable in scenario[1][context]]))
            for (context, _), assignment in zip(rounds, hidden)]
    return (tuple(told), hidden)


def counts(scenario, log):
    """For each context how often each of its sections comes."""
    need_scenario(scenario)
    need_log(scenario, log)
    rows = [[0] * many_sections(scenario, context) for context in scenario[1]]
    for context, section in log:
        rows[context][place_of(sizes_of(scenario, scenario[1][context]), section)] += 1
    return tuple([tuple(row) for row in rows])


def tables(scenario, log):
    """For each context the counts over their sum, or None if it does not come."""
    return tuple([lowest_row(row, sum(row)) if sum(row) > 0 else None for row in counts(scenario, log)])


def log_chance(scenario, family, log):
    """The product of the family's numbers of all pairs of the log."""
    need_scenario(scenario)
    need_family(scenario, family)
    need_log(scenario, log)
    top = bottom = 1
    for context, section in log:
        number = family[context][place_of(sizes_of(scenario, scenario[1][context]), section)]
        top, bottom = top * number[0], bottom * number[1]
    return lowest(top, bottom)


def is_likeliest(scenario, log, family):
    """Whether no family makes the log likelier: its tables are the family's rows."""
    found = tables(scenario, log)
    need_family(scenario, family)
    return all([table is None or table == row for table, row in zip(found, family)])


def gaps(scenario, log):
    """Triples (ONE, OTHER, GAP) for each two contexts that come, in order."""
    rows = tables(scenario, log)
    found = []
    for one, other in pairs_of(len(rows)):
        if rows[one] is not None and rows[other] is not None:
            found.append((one, other, gap_between(scenario, rows, one, other)))
    return tuple(found)


def gap_between(scenario, rows, one, other):
    """Half the sum of the sizes of the differences of two contexts' marginals on what they share."""
    contexts = scenario[1]
    lot = overlap(contexts[one], contexts[other])
    first = marginal_of(scenario, rows[one], contexts[one], lot)
    second = marginal_of(scenario, rows[other], contexts[other], lot)
    top, bottom = total([size_of(minus(number, beside)) for number, beside in zip(first, second)])
    return lowest(top, 2 * bottom)


def size_of(number):
    """A fraction without its sign."""
    return (abs(number[0]), number[1])
