"""Papers for claims of families and scenarios: joint distributions, fractions, reductions, wired families.

Each function takes a claim of as many parts as it has to have, and any paper. It tells whether the claim is so and
the paper one for it; or it raises an error of the package, for parts or papers that are not of the form told.
"""

from belltables.acyclic import is_obstruction, is_reduction, joint_along
from belltables.forms import is_tuple_of
from belltables.fractions import is_covering
from belltables.guards import (
    need_distribution, need_family, need_fraction, need_scenario, need_weights)
from belltables.ratios import ONE, is_chance, is_less, minus, over_one, product_sum, total
from belltables.shapes import everything, family_by, family_sums, many_sections
from belltables.tops import first_greatest
from belltables.wirings import wired


def takes_joint(claim, paper):
    """A joint distribution whose family it is."""
    _, scenario, family = claim
    need_scenario(scenario)
    need_family(scenario, family)
    need_distribution(scenario, paper)
    return family_by(scenario, paper) == family


def takes_weights(claim, paper):
    """Weights whose value in the family is above their local bound."""
    _, scenario, family = claim
    need_scenario(scenario)
    need_family(scenario, family)
    need_weights(scenario, paper)
    return is_less(first_greatest(scenario, paper)[0], product_sum(paper, family))


def takes_fraction(claim, paper):
    """A part of the family and a covering, both of the same sum."""
    _, scenario, family, number = claim
    need_scenario(scenario)
    need_family(scenario, family)
    need_fraction(number)
    if not is_tuple_of(paper, 2):
        return False
    row, covering = paper
    wanted = minus(ONE, number)
    if not is_part_of(scenario, family, row) or not is_covering(scenario, covering):
        return False
    return total(row) == wanted and product_sum(covering, family) == wanted


def is_part_of(scenario, family, value):
    """Whether a value, whatever it is, is numbers from 0 on for all global assignments with sums below a family's."""
    if not is_tuple_of(value, many_sections(scenario, everything(scenario))):
        return False
    if not all([is_chance(number) for number in value]):
        return False
    rows, _ = over_one([*family, value])
    return all([part <= number for line, parts in zip(rows, family_sums(scenario, rows[-1]))
                for number, part in zip(line, parts)])


def takes_reduction(claim, paper):
    """A Graham reduction."""
    return is_reduction(claim[1], paper)


def takes_obstruction(claim, paper):
    """An obstruction."""
    return is_obstruction(claim[1], paper)


def takes_joined(claim, paper):
    """Nothing, if the distribution is the one along the reduction."""
    _, scenario, family, reduction, distribution = claim
    need_scenario(scenario)
    need_distribution(scenario, distribution)
    return is_tuple_of(paper, 0) and joint_along(scenario, family, reduction) == distribution


def takes_wired(claim, paper):
    """Nothing, if the second family is the first one wired."""
    _, scenario, other, wiring, family, second = claim
    need_scenario(other)
    need_family(other, second)
    return is_tuple_of(paper, 0) and wired(scenario, other, wiring, family) == second


SIZES = {"noncontextual": 3, "contextual": 3, "fraction": 4, "acyclic": 2, "cyclic": 2, "joined": 5, "wired": 6}

TAKES = {
    "noncontextual": takes_joint,
    "contextual": takes_weights,
    "fraction": takes_fraction,
    "acyclic": takes_reduction,
    "cyclic": takes_obstruction,
    "joined": takes_joined,
    "wired": takes_wired,
}


def families_take(claim, paper):
    """Whether the claim is one of these, and the paper one for it."""
    word = claim[0]
    if word not in TAKES or len(claim) != SIZES[word]:
        return False
    takes = TAKES[word]
    return takes(claim, paper)
