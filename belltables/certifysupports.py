"""Claims of supports, vectors and Paulis, with papers that the checker accepts for them."""

from belltables.markings import marking
from belltables.parity import solved_or_odd
from belltables.paulis import valued_or_odd
from belltables.possible import extending, family_with


def certify_support(scenario, support):
    """The support is strongly contextual; or a global assignment is possible."""
    assignments = extending(scenario, support)
    if assignments == ():
        return (("strongly contextual", scenario, support), ())
    return (("possible", scenario, support), assignments[0])


def certify_family_with(scenario, support):
    """Some no-signalling family has just this support; or a balance bars it."""
    word, paper = family_with(scenario, support)
    return (("family with" if word == "family" else "no family with", scenario, support), paper)


def certify_parities(scenario, support):
    """A global assignment solves the support's parity rows; or an argument shows that none does."""
    word, paper = solved_or_odd(scenario, support)
    return (("parities solved" if word == "solved" else "all versus nothing", scenario, support), paper)


def certify_marking(vectors):
    """The vectors have a marking; or a tree shows that they have none."""
    word, paper = marking(vectors)
    return (("marking" if word == "marked" else "Kochen-Specker", vectors), paper)


def certify_valued(paulis, contexts):
    """Outcomes solve the parity rows of the Paulis alone; or an argument shows that none do."""
    word, paper = valued_or_odd(paulis, contexts)
    return (("valued" if word == "solved" else "odd whatever the state", paulis, contexts), paper)
