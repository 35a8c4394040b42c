"""Vectors of whole numbers: which are multiples of one another, which orthogonal, which make a basis."""

from belltables.ratios import is_whole


def is_vector(value):
    """Whether a value, whatever it is, is a tuple of 2 to 4 whole numbers from -9 to 9, not all 0."""
    return isinstance(value, tuple) and 2 <= len(value) <= 4 and (
        all([is_whole(number) and -9 <= number <= 9 for number in value]) and any(value))


def are_multiples(one, other):
    """Whether one vector is the other one times some fraction."""
    return all([one[at] * other[beside] == one[beside] * other[at] for at in range(len(one)) for beside in range(at)])


def is_new_vector(value, ahead):
    """Whether a value, whatever it is, is a vector of as many numbers as those ahead, and no multiple of them."""
    return is_vector(value) and all([len(value) == len(other) and not are_multiples(value, other) for other in ahead])


def wrong_vector(value):
    """The index of the first of a tuple that is no vector, or does not go with those ahead; None."""
    for at, vector in enumerate(value):
        if not is_new_vector(vector, value[:at]):
            return at
    return None


def are_orthogonal(one, other):
    """Whether the sum of the products, place by place, is 0."""
    return sum([number * beside for number, beside in zip(one, other)]) == 0


def neighbours_of(vectors):
    """For each vector the ascending list of the indexes of those orthogonal to it."""
    return [[at for at, other in enumerate(vectors) if are_orthogonal(vector, other)] for vector in vectors]


def all_bases(vectors):
    """The bases, in order: a list."""
    neighbours = neighbours_of(vectors)
    lots = [(at,) for at in range(len(vectors))]
    for _ in range(len(vectors[0]) - 1):
        lots = [lot + (more,) for lot in lots for more in neighbours[lot[-1]]
                if more > lot[-1] and all([more in neighbours[at] for at in lot])]
    return lots
