"""Claims of families and scenarios, with papers that the checker accepts for them."""

from belltables.acyclic import obstruction, reduction
from belltables.guards import need_family, need_scenario
from belltables.joint import joint_or_inequality
from belltables.parts import greatest_part
from belltables.ratios import ONE, minus


def certify_family(scenario, family):
    """The family is noncontextual, by a joint distribution; or contextual, by an inequality that it breaks."""
    word, paper = joint_or_inequality(scenario, family)
    return (("noncontextual" if word == "joint" else "contextual", scenario, family), paper)


def certify_fraction(scenario, family):
    """The family's contextual fraction, by a part of the rest and a covering."""
    need_scenario(scenario)
    need_family(scenario, family)
    number, row, covering = greatest_part(scenario, family)
    return (("fraction", scenario, family, minus(ONE, number)), (row, covering))


def certify_scenario(scenario):
    """The scenario is acyclic, by a Graham reduction; or cyclic, by an obstruction."""
    paper = reduction(scenario)
    if paper is not None:
        return (("acyclic", scenario), paper)
    return (("cyclic", scenario), obstruction(scenario))
