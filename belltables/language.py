"""A language of labs: reading a text, and printing a lab."""

from belltables.errors import InvalidText
from belltables.grammar import text_told
from belltables.meaning import lab_told
from belltables.printing import lab_lines
from belltables.terms import need_lab


def read_lab(text):
    """The lab that a text tells."""
    if not isinstance(text, str):
        raise InvalidText(None, None)
    observables, groups, blocks = text_told(text)
    return lab_told(observables, groups, blocks)


def lab_text(lab):
    """The text of a lab, from which it is read again."""
    need_lab(lab)
    return "\n".join(lab_lines(lab))
