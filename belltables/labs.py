"""Labs: named families, joint distributions, weights, games and terms of one scenario, and what they stand for."""

from belltables.errors import NotSettled
from belltables.standing import open_shares, rows_in, settled_names, whole_frame
from belltables.terms import (
    FAMILY, JOINT, TERM, is_known, is_lab_form, kinds_in, known_in, many_counted, need_lab, need_name)


def is_lab(value):
    """Whether a value, whatever it is, is a lab."""
    return is_lab_form(value)


def is_term(lab, value):
    """Whether a value, whatever it is, is a term behind all of the lab's things."""
    need_lab(lab)
    return many_counted(lab[1], known_in(lab), value) is not None


def family_in(lab, name):
    """What the family or term of this name stands for."""
    need_lab(lab)
    need_name(lab, name, (FAMILY, TERM))
    return rows_in(lab, name, lab[1])


def is_settled(lab, name):
    """Whether the family or term of this name is settled."""
    need_lab(lab)
    need_name(lab, name, (FAMILY, TERM))
    return name in settled_names(lab)


def open_share(lab, name):
    """How much of the family or term of this name comes of families by name."""
    need_lab(lab)
    need_name(lab, name, (FAMILY, TERM))
    return open_shares(lab)[name]


def joint_in(lab, name):
    """The joint distribution of this name, or of the settled term of this name."""
    need_lab(lab)
    need_name(lab, name, (JOINT, TERM))
    if is_known(kinds_in(lab), name, (TERM,)) and name not in settled_names(lab):
        raise NotSettled(name)
    return rows_in(lab, name, whole_frame(lab[1]))[0]
