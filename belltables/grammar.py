"""The form of a lab's text, line by line: what it tells, word by word, with the place of each word in its line.

A placed word is a pair (PLACE, WORD), WORD also a fraction where a number stands, None where rest does.
"""

from belltables.errors import InvalidText
from belltables.scanning import Cursor, read_letters, read_name, read_number, read_outcomes
from belltables.terms import (
    DIGITS, EVEN, FAMILY, GAME, JOINT, MIX, MOST_THINGS, NAME, OF, POINT, RESERVED, TERM, TURN, WEIGHTS)

MOST_NAMES = 6
MOST_GROUPS = 20
MOST_PARTS = 64
SIZES = "234"
NOTHING = "none"
REST = "rest"


def text_told(text):
    """(OBSERVABLES, GROUPS, BLOCKS) of a text that has the right form."""
    lines = text.split("\n")
    observables = read_observables(cursor_at(lines, 0))
    groups = read_groups(cursor_at(lines, 1))
    blocks = []
    at = 2
    while at < len(lines):
        if len(blocks) == MOST_THINGS:
            raise InvalidText(at, 0)
        block = read_block(lines, at, len(groups))
        blocks.append(block)
        at += 1 + (len(block[3]) if block[1] in (FAMILY, WEIGHTS, GAME) else 0)
    return observables, groups, blocks


def cursor_at(lines, at):
    """The line of this index, which has to be there."""
    if at >= len(lines):
        raise InvalidText(at, 0)
    return Cursor(at, lines[at])


def read_several(cursor, reader, between, most):
    """What a function reads, as often as it stands there with these signs between each two: a list."""
    found = [reader(cursor)]
    while len(found) < most and cursor.stands(between[0]):
        cursor.need(between)
        found.append(reader(cursor))
    return found


def read_observables(cursor):
    """The pairs (NAME, SIZE) of the first line, NAME a placed word, SIZE a digit: a list."""
    cursor.need("observables ")
    found = read_several(cursor, read_observable, ", ", MOST_NAMES)
    cursor.need_end()
    return found


def read_observable(cursor):
    """(NAME, SIZE)."""
    name = read_name(cursor)
    cursor.need(" ")
    return (name, cursor.run(SIZES, "", 1))


def read_groups(cursor):
    """The groups of the second line: a list."""
    cursor.need("contexts ")
    found = read_several(cursor, read_group, "; ", MOST_GROUPS)
    cursor.need_end()
    return found


def read_group(cursor):
    """The placed names of a group: a list."""
    return read_several(cursor, read_name, " ", MOST_NAMES)


def read_block(lines, at, many):
    """(LINE, KIND, NAME, TOLD) of the block that begins at a line; it has a line for each of so many groups.

    TOLD are rows (GROUP, SHARE, PARTS) of these lines, SHARE None for other kinds than games; the parts of a joint
    distribution; the words of a term. LINE and KIND are not placed.
    """
    cursor = cursor_at(lines, at)
    word = read_letters(cursor)
    if word == JOINT:
        cursor.need(" ")
        name = read_name(cursor)
        cursor.need(": ")
        return (at, JOINT, name, read_parts(cursor, True, False))
    if word in (FAMILY, WEIGHTS, GAME):
        cursor.need(" ")
        name = read_name(cursor)
        cursor.need_end()
        return (at, word, name, [read_line(cursor_at(lines, at + 1 + more), word) for more in range(many)])
    if word in RESERVED:
        cursor.refuse()
    cursor.need(" = ")
    return (at, TERM, (0, word), read_term(cursor))


def read_line(cursor, kind):
    """The row (GROUP, SHARE, PARTS) of a line behind a block's head."""
    share = None
    if kind == GAME:
        group = read_group_ahead(cursor)
        share = read_number(cursor, False)
    else:
        group = read_group(cursor)
    cursor.need(": ")
    if kind != FAMILY and cursor.stands("n"):
        cursor.need(NOTHING)
        cursor.need_end()
        return (group, share, [])
    if kind == GAME:
        return (group, share, read_words(cursor))
    return (group, share, read_parts(cursor, kind == FAMILY, kind == WEIGHTS))


def read_group_ahead(cursor):
    """The placed names of a group ahead of a number, with the blank behind them: a list."""
    found = [read_name(cursor)]
    cursor.need(" ")
    while len(found) < MOST_NAMES and not cursor.stands(DIGITS):
        found.append(read_name(cursor))
        cursor.need(" ")
    return found


def read_words(cursor):
    """Parts (WORD, None) for words of outcomes up to the line's end: a list."""
    words = read_several(cursor, read_outcomes, " ", MOST_PARTS)
    cursor.need_end()
    return [(word, None) for word in words]


def read_parts(cursor, with_rest, signed):
    """Parts (WORD, NUMBER) up to the line's end, both placed words: a list."""
    found = [read_part(cursor, with_rest, signed)]
    while len(found) < MOST_PARTS and found[-1][1][1] is not None and cursor.stands(","):
        cursor.need(", ")
        found.append(read_part(cursor, with_rest, signed))
    cursor.need_end()
    return found


def read_part(cursor, with_rest, signed):
    """(WORD, NUMBER)."""
    word = read_outcomes(cursor)
    cursor.need(" ")
    if with_rest and cursor.stands("r"):
        place = cursor.at
        cursor.need(REST)
        return (word, (place, None))
    return (word, read_number(cursor, signed))


def read_term(cursor):
    """The words (KIND, WORD, MORE) of a term up to the line's end, each ahead of the terms in it: a list."""
    found = []
    wanted = 1
    while wanted > 0:
        if found:
            cursor.need(" ")
        found.append(read_head(cursor))
        kind = found[-1][0]
        wanted += 1 if kind == MIX else 0 if kind == TURN else -1
    cursor.need_end()
    return found


def read_head(cursor):
    """(KIND, WORD, MORE): a term's first word, and up to two placed words behind it; None for what is not there."""
    place = cursor.at
    kind = read_letters(cursor)
    if kind == EVEN:
        return (kind, None, None)
    if kind not in RESERVED:
        return (NAME, (place, kind), None)
    if kind not in (POINT, OF, MIX, TURN):
        cursor.refuse()
    cursor.need(" ")
    if kind == POINT:
        return (kind, read_outcomes(cursor), None)
    if kind == MIX:
        return (kind, read_number(cursor, False), None)
    name = read_name(cursor)
    if kind == OF:
        return (kind, name, None)
    cursor.need(" ")
    return (kind, name, read_outcomes(cursor))
