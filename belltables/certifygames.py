"""Claims of games and inequalities, with papers that the checker accepts for them."""

from belltables.games import classical_value, no_signalling_value
from belltables.guards import need_fraction
from belltables.inequalities import greatest, is_facet
from belltables.inner import marks_at
from belltables.margins import lowest_margins
from belltables.ranks import independent
from belltables.ratios import is_less
from belltables.relabellings import between
from belltables.shapes import assignments_of


def certify_wins(scenario, game, number):
    """The classical value is at least the number, by a global assignment; or less."""
    best, assignment = classical_value(scenario, game)
    need_fraction(number)
    if is_less(best, number):
        return (("wins less", scenario, game, number), ())
    return (("wins", scenario, game, number), assignment)


def certify_reaches(scenario, game, number):
    """The no-signalling value is at least the number, by a family; or less, by a no-signalling bound."""
    best, family, bound = no_signalling_value(scenario, game)
    need_fraction(number)
    if is_less(best, number):
        return (("reaches less", scenario, game, number), bound)
    return (("reaches", scenario, game, number), family)


def certify_facet(scenario, inequality):
    """The inequality is a facet, by global assignments that meet it; or valid, but none; or broken by one."""
    if is_facet(scenario, inequality):
        return (("facet", scenario, inequality), meeting(scenario, inequality))
    best, assignment = greatest(scenario, inequality[0])
    if is_less(inequality[1], best):
        return (("broken", scenario, inequality), assignment)
    return (("no facet", scenario, inequality), ())


def meeting(scenario, inequality):
    """Global assignments that meet the inequality, as many as can be such that none lies in the flat of the others."""
    margins = lowest_margins(scenario, inequality)
    met = [(assignment, row) for assignment, row, margin
           in zip(assignments_of(scenario), marks_at(scenario), margins) if margin == 0]
    return tuple([met[at][0] for at in independent([row for _, row in met])])


def certify_equivalent(scenario, one, two):
    """The inequalities are equivalent, by a relabelling; or not."""
    relabelling = between(scenario, one, two)
    if relabelling is None:
        return (("not equivalent", scenario, one, two), ())
    return (("equivalent", scenario, one, two), relabelling)
