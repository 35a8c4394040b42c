"""Parity rows (CONTEXT, LOT, PARITY), and all-versus-nothing arguments made of them."""

from belltables.evenness import solve_rows
from belltables.forms import is_ascending, is_index, is_lot_of, is_tuple_of
from belltables.shapes import is_within

SOLVED = "solved"
ODD = "odd"


def solution_or_argument(rows, many):
    """("solved", OUTCOMES) for outcomes of so many observables that solve all rows, or ("odd", ROWS), an argument."""
    outcomes, places = solve_rows([(lot, parity) for _, lot, parity in rows], many)
    if outcomes is not None:
        return (SOLVED, outcomes)
    return (ODD, tuple([rows[place] for place in places]))


def are_solved(rows, outcomes):
    """Whether outcomes, one for each observable, solve all parity rows."""
    return all([sum([outcomes[observable] for observable in lot]) % 2 == parity for _, lot, parity in rows])


def is_argument_of(scenario, rows, value):
    """Whether a value, whatever it is, is an all-versus-nothing argument of these parity rows."""
    return is_argument_form(scenario, value) and all([row in rows for row in value])


def is_parity_row(scenario, value):
    """Whether a value, whatever it is, is a parity row of the scenario's contexts."""
    if not is_tuple_of(value, 3) or not is_index(value[0], len(scenario[1])):
        return False
    context, lot, parity = value
    return is_lot_of(lot, len(scenario[0])) and len(lot) > 0 and (
        is_within(lot, scenario[1][context]) and is_index(parity, 2))


def is_argument_form(scenario, value):
    """Whether a value, whatever it is, is an all-versus-nothing argument of parity rows of the scenario's contexts."""
    if not isinstance(value, tuple) or not all([is_parity_row(scenario, row) for row in value]):
        return False
    if not is_ascending(value) or sum([parity for _, _, parity in value]) % 2 == 0:
        return False
    counts = [0] * len(scenario[0])
    for _, lot, _ in value:
        for observable in lot:
            counts[observable] += 1
    return all([count % 2 == 0 for count in counts])
