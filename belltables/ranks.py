"""How many rows of whole numbers are linearly independent."""


def rank_of(rows):
    """The rank of rows of whole numbers of one length."""
    left = [row for row in rows if any(row)]
    rank = 0
    scale = 1
    while left:
        lead = left[0]
        column = first_other(lead)
        # All numbers are determinants of the rows' numbers (Bareiss), so the divisions leave no remainder.
        left = [[(number * lead[column] - row[column] * other) // scale for number, other in zip(row, lead)]
                for row in left[1:]]
        left = [row for row in left if any(row)]
        scale = lead[column]
        rank += 1
    return rank


def first_other(row):
    """The place of the row's first number other than 0."""
    for at, number in enumerate(row):
        if number != 0:
            return at
    return None
