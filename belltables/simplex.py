"""Linear programs in whole numbers alone.

Asked is the greatest sum of goal times x, for x from 0 on, with rows times x at most the limits, these from 0 on.
Each line of the table stands for an equation: the variable of the line, plus the line's numbers times the other
variables, is the last number; all of it times `scale`. The last line is the goal's. Numbers stay whole because
each one is a determinant of numbers of the program (Edmonds), so the divisions below leave no remainder.
"""


class Table:
    """A linear program on its way: which variables have lines, and which have columns."""

    def __init__(self, rows, limits, goal):
        """Variables are counted: one for each column of the rows, then one for what each row falls short of."""
        self.wide = len(goal)
        self.lines = [[*row, limit] for row, limit in zip(rows, limits)]
        self.lines.append([-number for number in goal] + [0])
        self.columns = list(range(self.wide))
        self.basis = list(range(self.wide, self.wide + len(limits)))
        self.places = [*self.columns, *[-1 for _ in self.basis]]
        self.scale = 1


def solve(rows, limits, goal):
    """(SCALE, XS, PRICES): any best x and, for each row, its price, all times SCALE, which is above 0.

    The prices are from 0 on; times the rows they are at least the goal, times the limits the same greatest sum.
    There has to be a greatest sum.
    """
    table = Table(rows, limits, goal)
    column = entering(table)
    while column is not None:
        exchange(table, leaving(table, column), column)
        column = entering(table)
    return table.scale, values_of(table), prices_of(table)


def entering(table):
    """The column whose variable raises the goal's sum most quickly; None."""
    numbers = table.lines[-1][:-1]
    least = min(numbers, default=0)
    if least >= 0:
        return None
    return numbers.index(least)


def leaving(table, column):
    """The line that limits the column's variable most narrowly."""
    found = None
    for at in range(len(table.basis)):
        if table.lines[at][column] > 0 and (found is None or is_tighter(table, column, at, found)):
            found = at
    return found


def is_tighter(table, column, at, other):
    """Whether the line limits the column's variable more narrowly than the other one."""
    line, beside = table.lines[at], table.lines[other]
    one, two = line[-1] * beside[column], beside[-1] * line[column]
    if one != two:
        return one < two
    # Ties are settled as if the limits were raised a very little, each one less than the one before: so no
    # table comes back, and the search ends.
    for variable in range(table.wide, len(table.places)):
        one = number_at(table, at, variable) * beside[column]
        two = number_at(table, other, variable) * line[column]
        if one != two:
            return one < two
    return False


def number_at(table, at, variable):
    """What the line has for the variable, be it one of a column or one of a line."""
    place = table.places[variable]
    if place >= 0:
        return table.lines[at][place]
    return table.scale if table.basis[at] == variable else 0


def exchange(table, at, column):
    """The line's variable gets the column, the column's variable the line."""
    lead = table.lines[at]
    table.lines = [cleared(line, lead, column, table.scale) for line in table.lines]
    table.lines[at] = [*lead[:column], table.scale, *lead[column + 1:]]
    table.scale = lead[column]
    table.places[table.columns[column]] = -1
    table.places[table.basis[at]] = column
    table.columns[column], table.basis[at] = table.basis[at], table.columns[column]


def cleared(line, lead, column, scale):
    """The line with the column's variable told by the leading line."""
    turn, part = lead[column], line[column]
    if part == 0:
        if turn == scale:
            return line
        return [number * turn // scale for number in line]
    found = [(number * turn - part * other) // scale for number, other in zip(line, lead)]
    found[column] = -part
    return found


def values_of(table):
    """The numbers of the program's own variables, times the scale: a list."""
    found = [0] * table.wide
    for variable, line in zip(table.basis, table.lines):
        if variable < table.wide:
            found[variable] = line[-1]
    return found


def prices_of(table):
    """The prices of the rows, times the scale: a list."""
    goal = table.lines[-1]
    found = [0] * len(table.basis)
    for variable, price in zip(table.columns, goal):
        if variable >= table.wide:
            found[variable - table.wide] = price
    return found
