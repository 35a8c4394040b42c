"""Lots of a scenario, their inner sections, and rows of numbers told by marks.

A mark of an inner section of a lot is the function that is 1 where just this section is told, else 0. A row for
the sections of a lot is in one way a sum of numbers times marks, one for each lot within it, () too, and each inner
section; such a number stands at the section that has the inner outcomes, and the last outcome everywhere else.
"""

from belltables.shapes import assignments_of, everything, place_of, sections_by, sizes_of


def lots_of(scenario):
    """The ascending list of the non-empty lots that lie in one context."""
    found = {}
    for context in scenario[1]:
        for lot in lots_within(context):
            found[lot] = True
    return sorted([lot for lot in found if lot != ()])


def lots_within(lot):
    """All lots within a lot: a list."""
    found = [()]
    for observable in lot:
        found = found + [smaller + (observable,) for smaller in found]
    return found


def inner_sections(scenario):
    """The pairs (LOT, SECTION) of the inner sections of all lots, in order: a list."""
    return [(lot, section) for lot in lots_of(scenario)
            for section in sections_by([size - 1 for size in sizes_of(scenario, lot)])]


def mark_place(scenario, whole, mark):
    """The place of a mark, told as (LOT, SECTION), in a row for a lot around it."""
    table = {observable: outcome for observable, outcome in zip(mark[0], mark[1])}
    outcomes = [table.get(observable, scenario[0][observable] - 1) for observable in whole]
    return place_of(sizes_of(scenario, whole), outcomes)


def mark_of(scenario, whole, section):
    """The pair (LOT, SECTION) whose mark's number stands at this section of a lot: what is not last in it."""
    inner = [(observable, outcome) for observable, outcome in zip(whole, section)
             if outcome < scenario[0][observable] - 1]
    return (tuple([observable for observable, _ in inner]), tuple([outcome for _, outcome in inner]))


def by_marks(sizes, row):
    """The numbers of the marks that make a row: the last outcome's number is taken from those of all others."""
    return with_last(sizes, row, -1)


def from_marks(sizes, row):
    """The row that these numbers times marks make."""
    return with_last(sizes, row, 1)


def with_last(sizes, row, sign):
    """The row with the last outcome's number, times the sign, added to all others, observable by observable: a list."""
    found = list(row)
    step = len(found)
    for size in sizes:
        block = step
        step = block // size
        for at in range(len(found)):
            if at % block < block - step:
                found[at] += sign * found[last_place(at, block, step)]
    return found


def last_place(at, block, step):
    """The place like this one but for the last outcome of the observable whose outcomes are so many steps apart."""
    return at - at % block + block - step + at % step


def mark_places(scenario):
    """The places of the marks of all inner sections, in order, in a row for the global assignments: a list."""
    whole = everything(scenario)
    return [mark_place(scenario, whole, mark) for mark in inner_sections(scenario)]


def marks_at(scenario):
    """For each global assignment a list: 1, then 1 or 0 for the mark of each inner section, in order."""
    inner = inner_sections(scenario)
    return [[1] + [1 if is_marked(assignment, lot, section) else 0 for lot, section in inner]
            for assignment in assignments_of(scenario)]


def is_marked(assignment, lot, section):
    """Whether the global assignment tells this section of the lot."""
    return all([assignment[observable] == outcome for observable, outcome in zip(lot, section)])
