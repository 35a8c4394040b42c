"""Tails: the chance of so many wins or more in rounds that are won each with one chance, whatever came before."""

from math import comb

from belltables.ratios import ONE, lowest


def powers_of(number, most):
    """The powers of a whole number, up to this one: a list."""
    found = [1]
    for _ in range(most):
        found.append(found[-1] * number)
    return found


def tail_of(number, wins, share):
    """The tail of so many rounds, so many wins, and the chance of each round."""
    if wins <= 0:
        return ONE
    top, bottom = share
    won = powers_of(top, number)
    lost = powers_of(bottom - top, number)
    ways = [comb(number, many) * won[many] * lost[number - many] for many in range(wins, number + 1)]
    return lowest(sum(ways), powers_of(bottom, number)[-1])
