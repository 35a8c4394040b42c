"""Equations modulo 2: outcomes that solve them all, or some of them that show that there are none."""


def solve_rows(rows, many):
    """(OUTCOMES, None) or (None, INDEXES) for rows (LOT, PARITY) of so many variables, each 0 or 1.

    OUTCOMES have at each row's LOT a sum that is even for PARITY 0, odd for 1. INDEXES are an ascending tuple of rows
    in which each variable comes an even number of times, while the sum of their parities is odd.
    """
    leads = []
    sources = []
    for at, (lot, parity) in enumerate(rows):
        mask, odd, added = cleared_by(leads, (mask_of(lot), parity, 0))
        if mask == 0 and odd == 1:
            return None, tuple(sorted([at, *chosen(sources, added)]))
        if mask != 0:
            lead = (mask, odd, added | (1 << len(sources)))
            leads = [cleared_by([lead], other) for other in leads] + [lead]
            sources.append(at)
    return outcomes_by(leads, many), None


def chosen(sources, added):
    """Those of the sources at whose places a number has a binary 1: a list."""
    return [source for place, source in enumerate(sources) if (added >> place) & 1 == 1]


def mask_of(lot):
    """The number with a binary 1 at each place of the lot."""
    mask = 0
    for place in lot:
        mask = mask | (1 << place)
    return mask


def top_bit(number):
    """The greatest binary 1 of a number above 0."""
    return 1 << (number.bit_length() - 1)


def cleared_by(leads, line):
    """The line with the leads added whose greatest variable it has.

    A line is (MASK, PARITY, ADDED): its variables, its parity, and a binary 1 for each source that was added to it.
    No lead has another one's greatest variable, so the order does not matter.
    """
    mask, parity, added = line
    for other, odd, more in leads:
        if mask & top_bit(other):
            mask, parity, added = mask ^ other, parity ^ odd, added ^ more
    return (mask, parity, added)


def outcomes_by(leads, many):
    """Outcomes that solve the leads: those that are no lead's greatest variable are 0."""
    outcomes = [0] * many
    for mask, parity, _ in leads:
        outcomes[mask.bit_length() - 1] = parity
    return tuple(outcomes)
