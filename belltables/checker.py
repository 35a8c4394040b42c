"""Whether a paper shows that a claim is so."""

from belltables.checkfamilies import families_take
from belltables.checkgames import games_take
from belltables.checklabs import labs_take
from belltables.checksupports import supports_take
from belltables.errors import LabError


def accepts(claim, paper):
    """Whether the claim is a claim for the checker and the paper one for it, whatever both are."""
    if not isinstance(claim, tuple) or len(claim) == 0 or not isinstance(claim[0], str):
        return False
    try:
        return families_take(claim, paper) or games_take(claim, paper) or (
            supports_take(claim, paper) or labs_take(claim, paper))
    except LabError:
        # What is refused is no part of a claim, or no paper, of the form told.
        return False
