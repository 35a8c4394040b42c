"""A joint distribution of a family, or a Bell inequality that it breaks."""

from belltables.guards import need_family, need_scenario, need_weights
from belltables.parts import greatest_part
from belltables.ratios import ONE, product_sum
from belltables.tops import first_greatest


def joint_or_inequality(scenario, family):
    """("joint", DISTRIBUTION), whose family it is, or ("inequality", WEIGHTS), with a value above the local bound."""
    need_scenario(scenario)
    need_family(scenario, family)
    number, row, covering = greatest_part(scenario, family)
    if number == ONE:
        return ("joint", row)
    # Each global assignment has at least 1 of the covering, the family less: turned, this is an inequality.
    return ("inequality", tuple([tuple([(-top, bottom) for top, bottom in weights]) for weights in covering]))


def value(scenario, weights, family):
    """The sum of all weights times the family's numbers."""
    need_scenario(scenario)
    need_weights(scenario, weights)
    need_family(scenario, family)
    return product_sum(weights, family)


def local_bound(scenario, weights):
    """The greatest sum of weights of the sections of one global assignment."""
    need_scenario(scenario)
    need_weights(scenario, weights)
    return first_greatest(scenario, weights)[0]


def is_noncontextual(scenario, family):
    """Whether the family is that of some joint distribution."""
    need_scenario(scenario)
    need_family(scenario, family)
    return greatest_part(scenario, family)[0] == ONE
