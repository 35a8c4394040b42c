"""Papers for claims of supports, of their parities, and of vectors.

Each function takes a claim of as many parts as it has to have, and any paper. It tells whether the claim is so and
the paper one for it; or it raises an error of the package, for parts or papers that are not of the form told.
"""

from belltables.arguments import are_solved, is_argument_of
from belltables.balances import is_balance
from belltables.forms import is_section_by, is_tuple_of
from belltables.guards import need_agreed, need_context, need_family, need_scenario, need_support
from belltables.markings import need_vectors
from belltables.marks import is_marking, is_odd_lot, is_tree_of
from belltables.orthogonal import all_bases, neighbours_of
from belltables.parity import need_pairs, rows_of
from belltables.possible import extension, need_possible, support_of
from belltables.shapes import everything
from belltables.supports import is_possible, possible_assignments, told_of


def takes_strong(claim, paper):
    """Nothing, if there is no possible global assignment."""
    _, scenario, support = claim
    need_scenario(scenario)
    need_support(scenario, support)
    return is_tuple_of(paper, 0) and not possible_assignments(scenario, support)


def takes_possible(claim, paper):
    """A possible global assignment."""
    _, scenario, support = claim
    need_scenario(scenario)
    need_support(scenario, support)
    return is_section_by(paper, scenario[0]) and is_possible(scenario, support, paper)


def takes_extending(claim, paper):
    """A possible global assignment that tells the section."""
    _, scenario, support, context, section = claim
    need_scenario(scenario)
    need_support(scenario, support)
    need_context(scenario, context)
    need_possible(scenario, support, context, section)
    return is_section_by(paper, scenario[0]) and is_possible(scenario, support, paper) and (
        told_of(everything(scenario), paper, scenario[1][context]) == section)


def takes_stuck(claim, paper):
    """Nothing, if no possible global assignment tells the section."""
    _, scenario, support, context, section = claim
    return is_tuple_of(paper, 0) and extension(scenario, support, context, section) is None


def takes_family(claim, paper):
    """A no-signalling family with just this support."""
    _, scenario, support = claim
    need_scenario(scenario)
    need_support(scenario, support)
    need_family(scenario, paper)
    need_agreed(scenario, paper)
    return support_of(scenario, paper) == support


def takes_balance(claim, paper):
    """A balance with all gains from 0 on, one at least above 0."""
    _, scenario, support = claim
    need_scenario(scenario)
    need_support(scenario, support)
    return is_balance(scenario, support, paper)


def takes_solution(claim, paper):
    """A global assignment that solves all parity rows of the support."""
    _, scenario, support = claim
    need_scenario(scenario)
    need_support(scenario, support)
    need_pairs(scenario)
    return is_section_by(paper, scenario[0]) and are_solved(rows_of(scenario, support), paper)


def takes_argument(claim, paper):
    """An all-versus-nothing argument of parity rows of the support."""
    _, scenario, support = claim
    need_scenario(scenario)
    need_support(scenario, support)
    need_pairs(scenario)
    return is_argument_of(scenario, rows_of(scenario, support), paper)


def takes_marks(claim, paper):
    """A marking."""
    vectors = claim[1]
    need_vectors(vectors)
    return is_marking(neighbours_of(vectors), all_bases(vectors), paper)


def takes_no_marks(claim, paper):
    """A tree, or an odd number of bases in which each vector comes an even number of times."""
    vectors = claim[1]
    need_vectors(vectors)
    neighbours, bases = neighbours_of(vectors), all_bases(vectors)
    return is_tree_of(neighbours, bases, paper) or is_odd_lot(bases, paper)


SIZES = {
    "strongly contextual": 3, "possible": 3, "extends": 5, "does not extend": 5, "family with": 3, "no family with": 3,
    "parities solved": 3, "all versus nothing": 3, "marking": 2, "Kochen-Specker": 2}

TAKES = {
    "strongly contextual": takes_strong,
    "possible": takes_possible,
    "extends": takes_extending,
    "does not extend": takes_stuck,
    "family with": takes_family,
    "no family with": takes_balance,
    "parities solved": takes_solution,
    "all versus nothing": takes_argument,
    "marking": takes_marks,
    "Kochen-Specker": takes_no_marks,
}


def supports_take(claim, paper):
    """Whether the claim is one of these, and the paper one for it."""
    word = claim[0]
    if word not in TAKES or len(claim) != SIZES[word]:
        return False
    takes = TAKES[word]
    return takes(claim, paper)
