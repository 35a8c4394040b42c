"""The greatest noncontextual part of a family, and a covering that shows that there is no greater one."""

from belltables.ratios import ONE, ZERO, lowest, lowest_row, over_one
from belltables.shapes import all_tellings
from belltables.simplex import solve


def greatest_part(scenario, family):
    """(NUMBER, ROW, COVERING): the noncontextual fraction, a row that has it as its sum, a covering of this value."""
    rows, bottom = over_one(family)
    told = all_tellings(scenario)
    open_ones = possible_places(rows, told)
    cells = [(context, place) for context, row in enumerate(rows) for place, number in enumerate(row) if number > 0]
    lines = [[1 if told[context][at] == place else 0 for at in open_ones] for context, place in cells]
    limits = [rows[context][place] for context, place in cells]
    scale, parts, prices = solve(lines, limits, [1 for _ in open_ones])
    row = [0] * len(told[0])
    for at, part in zip(open_ones, parts):
        row[at] = part
    covering = covering_by(rows, cells, lowest_row(prices, scale))
    return lowest(sum(parts), scale * bottom), lowest_row(row, scale * bottom), covering


def possible_places(rows, told):
    """The indexes of the global assignments that have a chance in every context: a list."""
    return [at for at in range(len(told[0])) if all([row[places[at]] > 0 for row, places in zip(rows, told)])]


def covering_by(rows, cells, prices):
    """The covering with these prices at the cells.

    A section without a chance has 1: that costs nothing, and covers all assignments that the program leaves out.
    """
    table = [[ONE if number == 0 else ZERO for number in row] for row in rows]
    for (context, place), price in zip(cells, prices):
        table[context][place] = price
    return tuple([tuple(row) for row in table])
