"""Kochen-Specker: markings of vectors, trees that show that there is none, odd numbers of bases."""

from belltables.coloring import marks_or_tree
from belltables.errors import InvalidVectors
from belltables.evenness import solve_rows
from belltables.orthogonal import all_bases, neighbours_of, wrong_vector

MOST = 31


def are_vectors(value):
    """Whether a value, whatever it is, is vectors."""
    return has_vectors(value) and wrong_vector(value) is None


def has_vectors(value):
    """Whether a value, whatever it is, is a tuple of as many as vectors may be."""
    return isinstance(value, tuple) and 1 <= len(value) <= MOST


def need_vectors(vectors):
    """Refuses what is no vectors."""
    if not has_vectors(vectors):
        raise InvalidVectors(None)
    wrong = wrong_vector(vectors)
    if wrong is not None:
        raise InvalidVectors(wrong)


def orthogonal_pairs(vectors):
    """The ascending tuple of the pairs of indexes of orthogonal vectors."""
    need_vectors(vectors)
    return tuple([(at, other) for at, beside in enumerate(neighbours_of(vectors)) for other in beside if at < other])


def bases_of(vectors):
    """The ascending tuple of the bases, lots of indexes."""
    need_vectors(vectors)
    return tuple(all_bases(vectors))


def marking(vectors):
    """("marked", MARKS), a marking, or ("none", TREE), which shows that there is none."""
    need_vectors(vectors)
    return marks_or_tree(neighbours_of(vectors), all_bases(vectors))


def odd_bases(vectors):
    """An ascending tuple of an odd number of bases in which each vector comes an even number of times; None."""
    need_vectors(vectors)
    bases = all_bases(vectors)
    # They are equations without a solution: each basis has an odd number of marks 1.
    _, places = solve_rows([(basis, 1) for basis in bases], len(vectors))
    if places is None:
        return None
    return tuple([bases[place] for place in places])
