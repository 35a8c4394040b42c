"""What supports leave possible: global assignments, and the sections that they tell."""

from belltables.shapes import (
    all_tellings, assignments_of, everything, many_sections, overlap, pairs_of, place_of, sizes_of)


def possible_marks(scenario, context, row):
    """A list that has True at the place of each possible section of a context, else False."""
    marks = [False] * many_sections(scenario, context)
    for section in row:
        marks[place_of(sizes_of(scenario, context), section)] = True
    return marks


def possible_assignments(scenario, support):
    """The possible global assignments, in order: a list."""
    rows = []
    for context, row, places in zip(scenario[1], support, all_tellings(scenario)):
        marks = possible_marks(scenario, context, row)
        rows.append([marks[place] for place in places])
    return [assignment for at, assignment in enumerate(assignments_of(scenario)) if all([row[at] for row in rows])]


def is_possible(scenario, support, assignment):
    """Whether what the global assignment tells of each context is possible."""
    whole = everything(scenario)
    return all([told_of(whole, assignment, context) in row for context, row in zip(scenario[1], support)])


def told_of(whole, section, lot):
    """The part of a section of a lot that tells a lot within it."""
    return tuple([outcome for observable, outcome in zip(whole, section) if observable in lot])


def parts_told(context, row, lot):
    """The tuples of outcomes of a lot within the context that its possible sections tell: an ascending list."""
    return sorted({told_of(context, section, lot) for section in row})


def are_consistent(scenario, support):
    """Whether any two contexts tell the same of what they share."""
    contexts = scenario[1]
    for one, other in pairs_of(len(contexts)):
        lot = overlap(contexts[one], contexts[other])
        if parts_told(contexts[one], support[one], lot) != parts_told(contexts[other], support[other], lot):
            return False
    return True


def stuck_sections(scenario, support):
    """The pairs (CONTEXT, SECTION) of possible sections that no possible global assignment tells, in order: a list."""
    whole = everything(scenario)
    assignments = possible_assignments(scenario, support)
    found = []
    for at, context in enumerate(scenario[1]):
        told = {told_of(whole, assignment, context): True for assignment in assignments}
        found = found + [(at, section) for section in support[at] if section not in told]
    return found
