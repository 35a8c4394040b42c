"""The form of the lines that a console is told: their first word, and the placed words behind it."""

from belltables.grammar import read_group, read_group_ahead, read_parts, read_term
from belltables.scanning import Cursor, read_name, read_outcomes, read_whole
from belltables.terms import JOINT, TERM

# With a blank behind it if more has to follow; none of them is the beginning of another one.
HEADS = (
    "let ", "joint ", "drop ", "roll ", "note ", "clear", "undo", "show", "table ", "log", "chance ", "settle ",
    "fraction ", "value ", "wins ", "level ", "acyclic")


def command_told(line):
    """(WORD, TOLD): the first word of a line of the right form, and a tuple of what it tells behind it."""
    cursor = Cursor(0, line)
    head = read_head_of(cursor)
    if head == "let ":
        name = read_name(cursor)
        cursor.need(" = ")
        return ("let", ((0, TERM, name, read_term(cursor)),))
    if head == "joint ":
        name = read_name(cursor)
        cursor.need(": ")
        return ("joint", ((0, JOINT, name, read_parts(cursor, True, False)),))
    told = read_behind(cursor, head)
    cursor.need_end()
    return (head.strip(), told)


def read_head_of(cursor):
    """The head that the line begins with."""
    for head in HEADS:
        if cursor.text.startswith(head):
            cursor.need(head)
            return head
    cursor.at = max([many_shared(head, cursor.text) for head in HEADS])
    return cursor.refuse()


def many_shared(one, other):
    """How many signs the two texts have in common at their beginning."""
    many = 0
    for sign, beside in zip(one, other):
        if sign != beside:
            return many
        many += 1
    return many


def read_behind(cursor, head):
    """The placed words behind another head than those of things: a tuple."""
    if head[-1] != " ":
        return ()
    if head == "note ":
        group = read_group(cursor)
        cursor.need(": ")
        return (group, read_outcomes(cursor))
    name = read_name(cursor)
    if head == "roll ":
        cursor.need(" ")
        group = read_group_ahead(cursor)
        return (name, group, read_whole(cursor))
    if head == "value ":
        cursor.need(" ")
        return (name, read_name(cursor))
    return (name,)
