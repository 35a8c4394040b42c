"""Possibilities: what supports leave possible, Hardy's paradox, and which supports come about."""

from belltables.balances import family_or_balance
from belltables.errors import InvalidSection, TooMany, Unfit
from belltables.forms import is_section_by, is_support_form
from belltables.guards import need_context, need_family, need_scenario, need_support
from belltables.ratios import ZERO
from belltables.shapes import everything, sections_in, sizes_of
from belltables.supports import are_consistent, possible_assignments, stuck_sections, told_of

BELL = ((0, 2), (0, 3), (1, 2), (1, 3))
MOST = 32


def is_support(scenario, value):
    """Whether a value, whatever it is, is a support of the scenario."""
    need_scenario(scenario)
    return is_support_form(scenario, value)


def support_of(scenario, family):
    """The support of a family: its sections with a chance above 0."""
    need_scenario(scenario)
    need_family(scenario, family)
    return tuple([tuple([section for section, number in zip(sections_in(scenario, context), row) if number != ZERO])
                  for context, row in zip(scenario[1], family)])


def is_consistent(scenario, support):
    """Whether for each two contexts the possible sections of both tell the same of what they share."""
    need_scenario(scenario)
    need_support(scenario, support)
    return are_consistent(scenario, support)


def extending(scenario, support):
    """The ascending tuple of the possible global assignments."""
    need_scenario(scenario)
    need_support(scenario, support)
    return tuple(possible_assignments(scenario, support))


def extension(scenario, support, context, section):
    """A possible global assignment that tells a possible section of a context, this told by its index; None."""
    need_scenario(scenario)
    need_support(scenario, support)
    need_context(scenario, context)
    need_possible(scenario, support, context, section)
    for assignment in possible_assignments(scenario, support):
        if told_of(everything(scenario), assignment, scenario[1][context]) == section:
            return assignment
    return None


def need_possible(scenario, support, context, section):
    """Refuses what is none of the possible sections of the context of this index."""
    if not is_section_by(section, sizes_of(scenario, scenario[1][context])) or section not in support[context]:
        raise InvalidSection(section)


def non_extending(scenario, support):
    """The ascending tuple of the pairs (CONTEXT, SECTION) of possible sections that do not extend."""
    need_scenario(scenario)
    need_support(scenario, support)
    return tuple(stuck_sections(scenario, support))


def contextuality_of(scenario, support):
    """Which of the words "strongly contextual", "logically contextual" and "extends everywhere" is so."""
    need_scenario(scenario)
    need_support(scenario, support)
    if not possible_assignments(scenario, support):
        return "strongly contextual"
    if stuck_sections(scenario, support):
        return "logically contextual"
    return "extends everywhere"


def hardy(scenario, support):
    """The ascending tuple of Hardy's paradoxes (CONTEXT, SECTION, P, Q) of a consistent support."""
    need_scenario(scenario)
    need_support(scenario, support)
    if scenario[1] != BELL:
        raise Unfit(scenario[1])
    if not are_consistent(scenario, support):
        raise Unfit(support)
    return tuple([paradox_at(support, context, section) for context, section in stuck_sections(scenario, support)])


def paradox_at(support, context, section):
    """(CONTEXT, SECTION, P, Q) for a section that does not extend."""
    x, y = section
    # The contexts are (0, 2), (0, 3), (1, 2), (1, 3): 2 more or less exchanges 0 and 1, 1 exchanges 2 and 3.
    beside_y = support[context ^ 2]
    beside_x = support[context ^ 1]
    return (context, section, tuple([one for one, other in beside_y if other == y]),
            tuple([other for one, other in beside_x if one == x]))


def family_with(scenario, support):
    """("family", FAMILY), no-signalling with just this support, or ("barred", BALANCE), which shows there is none."""
    need_scenario(scenario)
    need_support(scenario, support)
    many = sum([len(row) for row in support])
    if many > MOST:
        raise TooMany(many)
    return family_or_balance(scenario, support)
