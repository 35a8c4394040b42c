"""The search for a marking, which leaves a tree behind where there is none.

On the way some vectors are marked 1, told by `ones`, and some 0, by `zeros`. A vector is open if it is not marked,
nor orthogonal to one marked 1.
"""

MARKED = "marked"
NONE = "none"


def marks_or_tree(neighbours, bases):
    """("marked", MARKS) or ("none", TREE), for lists of all orthogonal ones of each vector, and all bases."""
    return search(neighbours, bases, (), ())


def search(neighbours, bases, ones, zeros):
    """The same for what is marked on the way so far."""
    found = narrowest(neighbours, bases, ones, zeros)
    if found is None:
        return (MARKED, tuple([1 if at in ones else 0 for at in range(len(neighbours))]))
    basis, choices = found
    if not choices:
        return (NONE, closed(neighbours, ones, zeros, basis))
    # One with many orthogonal ones leaves the least open if it is marked 1.
    chosen = max(choices, key=lambda at: len(neighbours[at]))
    with_one = search(neighbours, bases, ones + (chosen,), zeros)
    if with_one[0] == MARKED:
        return with_one
    with_zero = search(neighbours, bases, ones, zeros + (chosen,))
    if with_zero[0] == MARKED:
        return with_zero
    return (NONE, (chosen, with_one[1], with_zero[1]))


def narrowest(neighbours, bases, ones, zeros):
    """(BASIS, OPEN): the first basis without a 1 that has the fewest open vectors, and these; None.

    If all bases have a 1, all other vectors may be marked 0.
    """
    is_shut = [at in zeros or any([other in ones for other in beside]) for at, beside in enumerate(neighbours)]
    found = None
    for basis in bases:
        if not any([at in ones for at in basis]):
            choices = [at for at in basis if not is_shut[at]]
            if found is None or len(choices) < len(found[1]):
                found = (basis, choices)
    return found


def closed(neighbours, ones, zeros, basis):
    """The tree that shows that no vector of the basis, all of which are shut, can be marked 1."""
    tree = ("basis", basis)
    for at in basis:
        if at not in zeros:
            beside = [one for one in ones if one in neighbours[at]][0]
            tree = (at, ("pair", min(at, beside), max(at, beside)), tree)
    return tree
