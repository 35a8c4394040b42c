"""Papers for claims of Pauli measurements, of labs and their texts, and of logs.

Each function takes a claim of as many parts as it has to have, and any paper. It tells whether the claim is so and
the paper one for it; or it raises an error of the package, for parts or papers that are not of the form told.
"""

from belltables.arguments import are_solved, is_argument_of
from belltables.forms import is_section_by, is_tuple_of
from belltables.guards import need_distribution, need_family
from belltables.labs import joint_in
from belltables.language import read_lab
from belltables.logs import is_likeliest, log_chance
from belltables.paulis import need_contexts, need_paulis, pauli_family, pauli_scenario, rows_alone, two_each
from belltables.ratios import is_less
from belltables.terms import TERM, need_lab, need_name


def takes_table(claim, paper):
    """Nothing, if the family is that of the state."""
    _, state, paulis, contexts, family = claim
    need_family(pauli_scenario(paulis, contexts), family)
    return is_tuple_of(paper, 0) and pauli_family(state, paulis, contexts) == family


def takes_values(claim, paper):
    """Outcomes that solve the parity rows of the Paulis alone."""
    _, paulis, contexts = claim
    need_paulis(paulis)
    need_contexts(paulis, contexts)
    return is_section_by(paper, two_each(paulis)) and are_solved(rows_alone(paulis, contexts), paper)


def takes_odd_rows(claim, paper):
    """An all-versus-nothing argument of these rows."""
    _, paulis, contexts = claim
    need_paulis(paulis)
    need_contexts(paulis, contexts)
    return is_argument_of((two_each(paulis), contexts), rows_alone(paulis, contexts), paper)


def takes_text(claim, paper):
    """Nothing, if the lab is read from the text."""
    _, text, lab = claim
    need_lab(lab)
    return is_tuple_of(paper, 0) and read_lab(text) == lab


def takes_settled(claim, paper):
    """Nothing, if the distribution is that of the settled term."""
    _, lab, name, distribution = claim
    need_lab(lab)
    need_name(lab, name, (TERM,))
    need_distribution(lab[1], distribution)
    return is_tuple_of(paper, 0) and joint_in(lab, name) == distribution


def takes_likeliest(claim, paper):
    """Nothing, if no family makes the log likelier."""
    _, scenario, log, family = claim
    return is_likeliest(scenario, log, family) and is_tuple_of(paper, 0)


def takes_likelier(claim, paper):
    """A family that makes the log likelier."""
    _, scenario, log, family = claim
    return is_less(log_chance(scenario, family, log), log_chance(scenario, paper, log))


SIZES = {
    "stabilizer table": 5, "valued": 3, "odd whatever the state": 3, "reads": 3, "settled": 4, "most likely": 4,
    "not most likely": 4}

TAKES = {
    "stabilizer table": takes_table,
    "valued": takes_values,
    "odd whatever the state": takes_odd_rows,
    "reads": takes_text,
    "settled": takes_settled,
    "most likely": takes_likeliest,
    "not most likely": takes_likelier,
}


def labs_take(claim, paper):
    """Whether the claim is one of these, and the paper one for it."""
    word = claim[0]
    if word not in TAKES or len(claim) != SIZES[word]:
        return False
    takes = TAKES[word]
    return takes(claim, paper)
