"""Whether a value, whatever it is, is a marking of vectors, or shows that there is none.

Vectors are told by the lists of those orthogonal to each one, and by the list of their bases.
"""

from belltables.forms import is_ascending, is_index, is_lot_of, is_tuple_of

PAIR = "pair"
BASIS = "basis"


def is_marking(neighbours, bases, value):
    """Whether it gives each vector 0 or 1, no two orthogonal ones both 1, in each basis one 1."""
    if not is_tuple_of(value, len(neighbours)) or not all([is_index(mark, 2) for mark in value]):
        return False
    for mark, beside in zip(value, neighbours):
        if mark == 1 and any([value[other] == 1 for other in beside]):
            return False
    return all([sum([value[at] for at in basis]) == 1 for basis in bases])


def is_odd_lot(bases, value):
    """Whether it is an ascending tuple of an odd number of bases in which each vector comes an even number of times."""
    if not isinstance(value, tuple) or len(value) % 2 == 0 or not all([is_basis(bases, basis) for basis in value]):
        return False
    counts = {}
    for basis in value:
        for at in basis:
            counts[at] = counts.get(at, 0) + 1
    return is_ascending(value) and all([counts[at] % 2 == 0 for at in counts])


def is_basis(bases, value):
    """Whether it is one of the bases."""
    # The indexes are looked at by themselves, as True and 1 are alike to a comparison.
    return is_lot_of(value, max([basis[-1] + 1 for basis in bases], default=0)) and value in bases


def is_tree_of(neighbours, bases, value):
    """Whether it is a tree of the vectors."""
    left = [(value, (), ())]
    while left:
        tree, ones, zeros = left.pop()
        if is_fork(len(neighbours), ones + zeros, tree):
            left.append((tree[1], ones + (tree[0],), zeros))
            left.append((tree[2], ones, zeros + (tree[0],)))
        elif not is_pair_end(neighbours, ones, tree) and not is_basis_end(bases, zeros, tree):
            return False
    return True


def is_fork(many, marked, value):
    """Whether it is the index of a vector that is not marked yet, and something for both of its marks."""
    return is_tuple_of(value, 3) and is_index(value[0], many) and value[0] not in marked


def is_pair_end(neighbours, ones, value):
    """Whether it tells two orthogonal vectors that are marked 1."""
    if not is_tuple_of(value, 3) or not isinstance(value[0], str) or value[0] != PAIR:
        return False
    _, one, other = value
    return all([is_index(at, len(neighbours)) and at in ones for at in (one, other)]) and (
        one < other and other in neighbours[one])


def is_basis_end(bases, zeros, value):
    """Whether it tells a basis all of which is marked 0."""
    return is_tuple_of(value, 2) and isinstance(value[0], str) and value[0] == BASIS and (
        is_basis(bases, value[1]) and all([at in zeros for at in value[1]]))
