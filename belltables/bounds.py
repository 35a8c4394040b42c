"""The greatest value of a game for no-signalling families, with a no-signalling bound that shows it."""

from belltables.inner import by_marks, from_marks, inner_sections, lots_within, mark_of, mark_place
from belltables.ratios import lowest, lowest_row
from belltables.shapes import overlap, pairs_of, sections_in, sizes_of
from belltables.simplex import solve


def greatest_no_signalling(scenario, rows, bottom):
    """(NUMBER, FAMILY, BOUND): the greatest value, of no-signalling families, of weights told over one denominator.

    Sought are the chances of the inner sections of all lots: they can be any numbers from 0 on for which all sections
    of contexts have chances from 0 on. At first all of them are 0.
    """
    inner = inner_sections(scenario)
    columns = {key: at for at, key in enumerate(inner)}
    chances = [chances_of(scenario, context, columns) for context in scenario[1]]
    lines = [told for table in chances for told in table if not told[2]]
    limits = [told[1] for told in lines]
    scale, parts, prices = solve([negative(told[0]) for told in lines], limits, goal_of(scenario, rows, columns))
    family = [[sum_of_products(told[0], parts) + told[1] * scale for told in table] for table in chances]
    best = sum([sum_of_products(row, beside) for row, beside in zip(rows, family)])
    bound = bound_of(scenario, raised_rows(rows, chances, prices, scale), bottom * scale)
    return lowest(best, bottom * scale), tuple([lowest_row(row, scale) for row in family]), bound


def negative(line):
    """The numbers with the other sign: a list."""
    return [-number for number in line]


def sum_of_products(line, beside):
    """The sum of the products of numbers, one by one."""
    return sum([one * two for one, two in zip(line, beside)])


def chances_of(scenario, context, columns):
    """For each section of a context (NUMBERS, NUMBER, IS_FREE): a list.

    The section's chance is NUMBER and the sum of NUMBERS times the chances of the inner sections of all lots; it is
    one of these itself if IS_FREE.
    """
    marks = [mark_of(scenario, context, section) for section in sections_in(scenario, context)]
    found = []
    for mark in marks:
        line = [0] * len(columns)
        for other in marks[:-1]:
            line[columns[other]] = sign_of(mark, other)
        found.append((line, sign_of(mark, marks[-1]), mark[0] == context))
    return found


def sign_of(mark, other):
    """How often the other mark is counted for a section with this mark, whose other outcomes all are the last ones.

    A last outcome is what is left when the others are taken away, so each one more that is not last turns the sign.
    """
    lot, section = mark
    table = {observable: outcome for observable, outcome in zip(other[0], other[1])}
    if not all([table.get(observable) == outcome for observable, outcome in zip(lot, section)]):
        return 0
    return 1 if (len(table) - len(lot)) % 2 == 0 else -1


def goal_of(scenario, rows, columns):
    """What the rows have for the mark of each inner section, all contexts together: a list."""
    goal = [0] * len(columns)
    for context, row in zip(scenario[1], rows):
        numbers = by_marks(sizes_of(scenario, context), row)
        # The last section is the one without inner outcomes.
        for section, number in list(zip(sections_in(scenario, context), numbers))[:-1]:
            goal[columns[mark_of(scenario, context, section)]] += number
    return goal


def raised_rows(rows, chances, prices, scale):
    """The rows times the scale, raised by the prices, which are there for the sections that are not free."""
    found = []
    used = 0
    for row, table in zip(rows, chances):
        line = []
        for number, told in zip(row, table):
            price = 0
            if not told[2]:
                price = prices[used]
                used += 1
            line.append(number * scale + price)
        found.append(line)
    return found


def bound_of(scenario, rows, bottom):
    """The no-signalling bound with these rows, or greater ones, over the denominator.

    By the prices the marks of each lot have, all contexts together, at most 0. So all but the first context with a
    lot can hand over to that one what they have for its marks: what that one gets for it is no less than its own.
    """
    contexts = scenario[1]
    numbers = [by_marks(sizes_of(scenario, context), row) for context, row in zip(contexts, rows)]
    first = first_contexts(contexts)
    handed = [handed_row(scenario, pair, first, numbers[pair[1]]) for pair in pairs_of(len(contexts))]
    return (lowest_row([row[-1] for row in numbers], bottom), tuple([lowest_row(row, bottom) for row in handed]))


def first_contexts(contexts):
    """For each lot that lies in a context the index of the first one: a dict."""
    first = {}
    for at, context in enumerate(contexts):
        for lot in lots_within(context):
            first.setdefault(lot, at)
    return first


def handed_row(scenario, pair, first, numbers):
    """What the second one of a pair of contexts, with these numbers for marks, hands over to the first one: a list."""
    context = scenario[1][pair[1]]
    lot = overlap(scenario[1][pair[0]], context)
    row = []
    for section in sections_in(scenario, lot):
        mark = mark_of(scenario, lot, section)
        if mark[0] != () and first[mark[0]] == pair[0]:
            row.append(-numbers[mark_place(scenario, context, mark)])
        else:
            row.append(0)
    return from_marks(sizes_of(scenario, lot), row)
