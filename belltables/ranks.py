"""Which rows of whole numbers are linearly independent, and how many."""


def rank_of(rows):
    """The rank of rows of whole numbers of one length."""
    return len(independent(rows))


def independent(rows):
    """The indexes of rows, as many as their rank, that are linearly independent: an ascending list."""
    left = [(at, row) for at, row in enumerate(rows) if any(row)]
    found = []
    scale = 1
    while left:
        first, lead = left[0]
        column = first_other(lead)
        # All numbers are determinants of the rows' numbers (Bareiss), so the divisions leave no remainder.
        left = [(at, [(number * lead[column] - row[column] * other) // scale for number, other in zip(row, lead)])
                for at, row in left[1:]]
        left = [(at, row) for at, row in left if any(row)]
        scale = lead[column]
        found.append(first)
    return found


def first_other(row):
    """The place of the row's first number other than 0."""
    for at, number in enumerate(row):
        if number != 0:
            return at
    return None
