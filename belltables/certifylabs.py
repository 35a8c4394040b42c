"""Claims of logs, and of games in many rounds, with papers that the checker accepts for them."""

from belltables.games import classical_value
from belltables.guards import need_count, need_share
from belltables.logs import is_likeliest, tables
from belltables.ratios import is_less
from belltables.tails import tail_of


def certify_log(scenario, log, family):
    """No family makes the log likelier; or one with the log's tables does."""
    if is_likeliest(scenario, log, family):
        return (("most likely", scenario, log, family), ())
    paper = tuple([row if table is None else table for table, row in zip(tables(scenario, log), family)])
    return (("not most likely", scenario, log, family), paper)


def certify_memory(scenario, game, number, wins, share):
    """No plan wins so often with more than the chance `share`; or a global assignment, played in all rounds, does."""
    best, assignment = classical_value(scenario, game)
    need_count(number)
    need_count(wins)
    need_share(share)
    if is_less(share, tail_of(number, wins, best)):
        return (("at times more", scenario, game, number, wins, share), assignment)
    return (("never more", scenario, game, number, wins, share), ())
