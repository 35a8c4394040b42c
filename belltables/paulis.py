"""Pauli measurements: operators, states, their tables, and parities that no outcomes solve."""

from belltables.arguments import solution_or_argument
from belltables.errors import InvalidContexts, InvalidPauli, InvalidPaulis, InvalidState, TooMany, Unfit
from belltables.forms import is_lot_of, is_within_another
from belltables.operators import (
    commute, group_signs, is_operator, is_operator_of, lot_products, mean_in, nothing_of, product_of, wrong_in_paulis,
    wrong_in_state)
from belltables.ratios import lowest_row
from belltables.shapes import sections_by

MOST = 6


def is_pauli(value):
    """Whether a value, whatever it is, is a Pauli operator."""
    return is_operator(value)


def need_pauli(pauli):
    """Refuses what is no Pauli operator."""
    if not is_operator(pauli):
        raise InvalidPauli(pauli)


def need_pauli_like(other, pauli):
    """Refuses what is no Pauli operator of as many letters as the other one."""
    if not is_operator_of(other, len(pauli[1])):
        raise InvalidPauli(other)


def pauli_product(pauli, other):
    """(POWER, LETTERS): the product is i to the power times the letters."""
    need_pauli(pauli)
    need_pauli_like(other, pauli)
    return product_of(pauli, other)


def do_commute(pauli, other):
    """Whether two operators of as many letters commute."""
    need_pauli(pauli)
    need_pauli_like(other, pauli)
    return commute(pauli, other)


def is_state(value):
    """Whether a value, whatever it is, is a state."""
    return has_operators(value, 3) and wrong_in_state(value) is None


def has_operators(value, most):
    """Whether a value, whatever it is, is a tuple of one or more, up to so many."""
    return isinstance(value, tuple) and 1 <= len(value) <= most


def need_state(state):
    """Refuses what is no state."""
    if not has_operators(state, 3):
        raise InvalidState(None)
    wrong = wrong_in_state(state)
    if wrong is not None:
        raise InvalidState(wrong)


def need_paulis(paulis):
    """Refuses what is no Paulis."""
    if not has_operators(paulis, 16):
        raise InvalidPaulis(None)
    wrong = wrong_in_paulis(paulis)
    if wrong is not None:
        raise InvalidPaulis(wrong)


def need_contexts(paulis, contexts):
    """Refuses what is no contexts of the Paulis."""
    if not isinstance(contexts, tuple) or len(contexts) == 0:
        raise InvalidContexts(None)
    for at, context in enumerate(contexts):
        if not is_lot_of(context, len(paulis)) or len(context) == 0 or (at > 0 and context <= contexts[at - 1]):
            raise InvalidContexts(at)
        if not all([commute(paulis[one], paulis[other]) for one in context for other in context]):
            raise InvalidContexts(at)
    used = {at: True for context in contexts for at in context}
    if len(used) < len(paulis) or is_within_another(contexts):
        raise InvalidContexts(None)


def need_fit(state, paulis):
    """Refuses a state with Paulis of another number of letters."""
    if len(state) != len(paulis[0][1]):
        raise Unfit(state)


def need_few(paulis):
    """Refuses more Paulis than a scenario may have observables."""
    if len(paulis) > MOST:
        raise TooMany(len(paulis))


def group_of(state):
    """The ascending tuple of the state's group."""
    need_state(state)
    signs = group_signs(state)
    return tuple(sorted([(signs[letters], letters) for letters in signs]))


def mean_of(state, pauli):
    """The mean of the operator in the state: 1, -1 or 0."""
    need_state(state)
    need_pauli(pauli)
    if len(pauli[1]) != len(state):
        raise Unfit(pauli)
    return mean_in(group_signs(state), pauli)


def pauli_scenario(paulis, contexts):
    """The scenario of the Paulis with these contexts."""
    need_paulis(paulis)
    need_contexts(paulis, contexts)
    need_few(paulis)
    return (two_each(paulis), contexts)


def two_each(paulis):
    """How many outcomes the Paulis have."""
    return tuple([2 for _ in paulis])


def pauli_family(state, paulis, contexts):
    """The family of the Paulis in the state."""
    need_state(state)
    need_paulis(paulis)
    need_contexts(paulis, contexts)
    need_fit(state, paulis)
    need_few(paulis)
    signs = group_signs(state)
    return tuple([pauli_row(signs, paulis, context) for context in contexts])


def pauli_row(signs, paulis, context):
    """The row of a context in the state whose group has these signs."""
    products = lot_products(paulis, context)
    means = [(lot, mean_in(signs, products[lot])) for lot in products]
    row = []
    for section in sections_by([2 for _ in context]):
        told = {at: outcome for at, outcome in zip(context, section)}
        row.append(sum([mean if sum([told[at] for at in lot]) % 2 == 0 else -mean for lot, mean in means]))
    return lowest_row(row, len(row))


def rows_by(signs, paulis, contexts):
    """The parity rows of all lots whose product has a mean other than 0 by the signs, in order: a list."""
    found = []
    for at, context in enumerate(contexts):
        products = lot_products(paulis, context)
        means = {lot: mean_in(signs, products[lot]) for lot in products}
        found = found + [(at, lot, 0 if means[lot] == 1 else 1) for lot in sorted(means)
                         if lot != () and means[lot] != 0]
    return found


def pauli_rows(state, paulis, contexts):
    """The ascending tuple of the parity rows of the Paulis in the state."""
    need_state(state)
    need_paulis(paulis)
    need_contexts(paulis, contexts)
    need_fit(state, paulis)
    return tuple(rows_by(group_signs(state), paulis, contexts))


def family_or_odd(state, paulis, contexts):
    """("solved", OUTCOMES), which solve the parity rows in the state, or ("odd", ROWS), an argument made of them."""
    return solution_or_argument(list(pauli_rows(state, paulis, contexts)), len(paulis))


def valued_or_odd(paulis, contexts):
    """("solved", OUTCOMES), which solve the parity rows of the Paulis alone, or ("odd", ROWS), an argument."""
    need_paulis(paulis)
    need_contexts(paulis, contexts)
    return solution_or_argument(rows_alone(paulis, contexts), len(paulis))


def rows_alone(paulis, contexts):
    """The parity rows of the Paulis alone, in order: a list."""
    return rows_by({nothing_of(len(paulis[0][1])): 1}, paulis, contexts)
