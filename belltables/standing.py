"""What families, joint distributions and terms stand for: rows for the contexts of a frame.

A frame is a pair (OUTCOMES, CONTEXTS) like a scenario's; for joint distributions its one context has all observables.
"""

from belltables.ratios import ONE, ZERO, mixed, mixed_rows
from belltables.relabellings import led_rows
from belltables.shapes import everything, many_sections, marginal_of, place_of, sizes_of
from belltables.terms import EVEN, FAMILY, JOINT, MIX, NAME, OF, POINT, TERM, parts_of


def whole_frame(scenario):
    """The frame of a scenario's joint distributions."""
    return (scenario[0], (everything(scenario),))


def told_names(term, words):
    """The names that a term tells behind one of these words: a list."""
    found = []
    left = [term]
    while left:
        term = left.pop()
        left = [*left, *parts_of(term)]
        if term[0] in words:
            found.append(term[1])
    return found


def needed_for(lab, name):
    """The things that the one of this name stands on, and that one, in order: a list."""
    wanted = {name: True}
    for told, kind, value in reversed(lab[2]):
        if told in wanted and kind == TERM:
            for other in told_names(value, (NAME, OF)):
                wanted[other] = True
    return [thing for thing in lab[2] if thing[0] in wanted]


def rows_in(lab, name, frame):
    """What the family, joint distribution or term of this name stands for in the frame.

    In the frame of joint distributions nothing that it stands on may be a family.
    """
    table = {}
    for told, kind, value in needed_for(lab, name):
        if kind == FAMILY:
            table[told] = value
        elif kind == JOINT:
            table[told] = joint_rows(frame, value)
        else:
            table[told] = term_rows(frame, table, value)
    return table[name]


def joint_rows(frame, distribution):
    """The marginals of a joint distribution on the contexts."""
    whole = everything(frame)
    return tuple([marginal_of(frame, distribution, whole, context) for context in frame[1]])


def term_rows(frame, table, term):
    """What a term stands for, by a dict of what the things that it tells stand for."""
    word = term[0]
    if word == EVEN:
        many = [many_sections(frame, context) for context in frame[1]]
        return tuple([((1, size),) * size for size in many])
    if word == POINT:
        return tuple([point_row(frame, context, term[1]) for context in frame[1]])
    if word == OF or word == NAME:
        return table[term[1]]
    if word == MIX:
        return mixed_rows(term[1], term_rows(frame, table, term[2]), term_rows(frame, table, term[3]))
    turns = [tuple(range(size)) for size in frame[0]]
    turns[term[1]] = term[2]
    return led_rows(frame, (everything(frame), turns), term_rows(frame, table, term[3]))


def point_row(frame, context, assignment):
    """The row of a context that has 1 at what the global assignment tells."""
    row = [ZERO] * many_sections(frame, context)
    row[place_of(sizes_of(frame, context), [assignment[observable] for observable in context])] = ONE
    return tuple(row)


def open_share_of(shares, term):
    """The open share of a term, by a dict of those of the families and terms that it tells."""
    word = term[0]
    if word == NAME:
        return shares[term[1]]
    if word == MIX:
        one, two = [open_share_of(shares, part) for part in parts_of(term)]
        return mixed(term[1], one, two)
    return ZERO if parts_of(term) == () else open_share_of(shares, term[3])


def open_shares(lab):
    """The open shares of all families and terms: a dict."""
    shares = {}
    for name, kind, value in lab[2]:
        if kind == FAMILY:
            shares[name] = ONE
        elif kind == TERM:
            shares[name] = open_share_of(shares, value)
    return shares


def settled_names(lab):
    """The names of all settled terms: a dict."""
    settled = {}
    for name, kind, value in lab[2]:
        if kind == TERM and all([told in settled for told in told_names(value, (NAME,))]):
            settled[name] = True
    return settled
