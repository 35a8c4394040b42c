"""Pauli operators (SIGN, LETTERS): their form, products, which commute, and the groups of states."""

from belltables.ratios import is_whole

ORDER = "XYZ"
LETTERS = "IXYZ"


def is_operator(value):
    """Whether a value, whatever it is, is a Pauli operator."""
    if not isinstance(value, tuple) or len(value) != 2:
        return False
    sign, letters = value
    return is_whole(sign) and abs(sign) == 1 and isinstance(letters, str) and 1 <= len(letters) <= 3 and (
        all([letter in LETTERS for letter in letters]))


def is_operator_of(value, many):
    """Whether a value, whatever it is, is a Pauli operator of so many letters."""
    return is_operator(value) and len(value[1]) == many


def letter_product(one, other):
    """(POWER, LETTER) of one place: X Y = i Z and so on in turn, the other way round -i."""
    if one == "I" or other == "I":
        return (0, other if one == "I" else one)
    first, second = ORDER.index(one), ORDER.index(other)
    if first == second:
        return (0, "I")
    return (1 if (second - first) % 3 == 1 else 3, ORDER[3 - first - second])


def product_of(pauli, other):
    """(POWER, LETTERS): the product is i to the power times the letters."""
    told = [letter_product(one, two) for one, two in zip(pauli[1], other[1])]
    power = sum([more for more, _ in told]) + (0 if pauli[0] == other[0] else 2)
    return (power % 4, "".join([letter for _, letter in told]))


def signed_product(pauli, other):
    """The product of two operators that commute, which is an operator, too."""
    power, letters = product_of(pauli, other)
    return (1 if power == 0 else -1, letters)


def commute(pauli, other):
    """Whether two operators of as many letters commute."""
    unlike = [one != "I" and two != "I" and one != two for one, two in zip(pauli[1], other[1])]
    return sum([1 for is_so in unlike if is_so]) % 2 == 0


def nothing_of(many):
    """The letters I alone, so many."""
    return "I" * many


def lot_products(paulis, lot):
    """For each lot within a lot of operators that commute its product: a dict."""
    found = {(): (1, nothing_of(len(paulis[0][1])))}
    for at in lot:
        for smaller in list(found):
            found[smaller + (at,)] = signed_product(found[smaller], paulis[at])
    return found


def group_signs(state):
    """For the letters of each operator of a state's group its sign: a dict."""
    products = lot_products(state, tuple(range(len(state))))
    return {products[lot][1]: products[lot][0] for lot in products}


def mean_in(signs, pauli):
    """The mean of an operator in the state whose group has these signs."""
    return signs.get(pauli[1], 0) * pauli[0]


def wrong_in_state(value):
    """The index of the first of 1 to 3 that does not go with those ahead in a state of as many places; None."""
    known = {nothing_of(len(value)): True}
    for at, pauli in enumerate(value):
        if not is_operator_of(pauli, len(value)) or pauli[1] in known:
            return at
        if not all([commute(pauli, other) for other in value[:at]]):
            return at
        known = group_signs(value[:at + 1])
    return None


def wrong_in_paulis(value):
    """The index of the first of 1 to 16 that does not go with those ahead among Paulis; None."""
    ahead = {}
    for at, pauli in enumerate(value):
        if not is_operator(pauli) or len(pauli[1]) != len(value[0][1]):
            return at
        if pauli[1] == nothing_of(len(pauli[1])) or pauli[1] in ahead:
            return at
        ahead[pauli[1]] = True
    return None
