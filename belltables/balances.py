"""No-signalling families with just a given support, or balances that show that there is none (Stiemke's lemma)."""

from belltables.handing import are_handed, received
from belltables.ranks import independent
from belltables.ratios import ZERO, lowest, lowest_row, over_one
from belltables.shapes import many_sections, overlap, pairs_of, place_of, sizes_of
from belltables.simplex import solve
from belltables.supports import told_of

FAMILY = "family"
BARRED = "barred"


def family_or_balance(scenario, support):
    """("family", FAMILY), no-signalling with just this support, or ("barred", BALANCE).

    Sought are numbers for the lines of gains whose gains all are from 0 on, the greatest sum of these, up to 1. If
    it is 0, the prices of the gains and 1 more each are chances on which all contexts agree.
    """
    lines = gain_lines(scenario, support)
    # The others are sums of these, so they make no other gains.
    used = independent([line for _, line in lines])
    rows = [lines[at][1] for at in used]
    columns = [[row[cell] for row in rows] for cell in range(len(possible_cells(support)))]
    goal = [sum(row) for row in rows]
    limits = [0 for _ in columns] + [1]
    scale, numbers, prices = solve([both_ways(column, -1) for column in columns] + [both_ways(goal, 1)],
                                   limits, both_ways(goal, 1))
    balance = [number - other for number, other in zip(numbers[:len(used)], numbers[len(used):])]
    if any(balance):
        return (BARRED, balance_by(scenario, {lines[at][0]: lowest(number, scale)
                                              for at, number in zip(used, balance)}))
    return (FAMILY, family_on(scenario, support, [price + scale for price in prices[:-1]]))


def is_balance(scenario, support, value):
    """Whether a value, whatever it is, is a balance with all gains from 0 on, one at least above 0."""
    if not are_handed(scenario, value):
        return False
    rows, _ = over_one(value)
    gains = []
    for context, sections, row in zip(scenario[1], support, received(scenario, rows)):
        sizes = sizes_of(scenario, context)
        gains = gains + [row[place_of(sizes, section)] for section in sections]
    return min(gains) >= 0 and max(gains) > 0


def both_ways(line, sign):
    """The line times the sign, then times the other sign: its variables may lie on both sides of 0."""
    return [sign * number for number in line] + [-sign * number for number in line]


def possible_cells(support):
    """The pairs (CONTEXT, SECTION) of all possible sections, in order: a list."""
    return [(at, section) for at, row in enumerate(support) for section in row]


def gain_lines(scenario, support):
    """Pairs ((PAIR, PLACE), LINE): a list.

    PAIR is the index of a pair of contexts, PLACE that of a tuple of outcomes of what they share; LINE tells how
    often its number comes in the gain of each possible section.
    """
    contexts = scenario[1]
    cells = possible_cells(support)
    found = []
    for at, pair in enumerate(pairs_of(len(contexts))):
        lot = overlap(contexts[pair[0]], contexts[pair[1]])
        places = [place_of(sizes_of(scenario, lot), told_of(contexts[context], section, lot))
                  for context, section in cells]
        signs = [1 if context == pair[0] else -1 if context == pair[1] else 0 for context, _ in cells]
        for wanted in range(many_sections(scenario, lot)):
            found.append(((at, wanted), [sign if place == wanted else 0 for sign, place in zip(signs, places)]))
    return found


def balance_by(scenario, table):
    """The balance with these fractions at (PAIR, PLACE), 0 elsewhere."""
    contexts = scenario[1]
    rows = []
    for at, pair in enumerate(pairs_of(len(contexts))):
        many = many_sections(scenario, overlap(contexts[pair[0]], contexts[pair[1]]))
        rows.append(tuple([table.get((at, place), ZERO) for place in range(many)]))
    return tuple(rows)


def family_on(scenario, support, numbers):
    """The family whose possible sections have chances as these numbers, which have one sum in each context."""
    rows = []
    used = 0
    for context, sections in zip(scenario[1], support):
        row = [0] * many_sections(scenario, context)
        for section in sections:
            row[place_of(sizes_of(scenario, context), section)] = numbers[used]
            used += 1
        rows.append(lowest_row(row, sum(row)))
    return tuple(rows)
