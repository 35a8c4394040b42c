"""What single words of a lab's text tell: groups, sections, terms. All are placed, as the grammar tells them."""

from belltables.errors import InvalidTerm, NoSection, NoShare, TwiceNamed, UnknownName
from belltables.forms import is_each_once, is_section_by
from belltables.terms import (
    EVEN, FAMILY, JOINT, MIX, MOST_COUNTED, MOST_WITHIN, NAME, OF, POINT, TERM, TURN, counted, is_known)


def observable_told(names, line, word):
    """The observable of this name."""
    place, name = word
    if name not in names:
        raise UnknownName(line, place)
    return names.index(name)


def group_told(names, line, group):
    """The observables of a group, in the order told: a list."""
    found = []
    for word in group:
        observable = observable_told(names, line, word)
        if observable in found:
            raise TwiceNamed(line, word[0])
        found.append(observable)
    return found


def outcomes_of(word):
    """The outcomes of a word of outcomes."""
    return tuple([int(sign) for sign in word[1]])


def section_told(sizes, line, word):
    """The section, for so many outcomes each, that a word of outcomes tells."""
    section = outcomes_of(word)
    if not is_section_by(section, sizes):
        raise NoSection(line, word[0])
    return section


def term_told(names, scenario, known, line, words):
    """The term that the words of a line tell, each ahead of the terms in it."""
    heads = [head_told(names, scenario, known, line, told) for told in words]
    if len(heads) > MOST_WITHIN:
        raise InvalidTerm(len(heads))
    many = sum([counted(known, head) for head in heads])
    if many > MOST_COUNTED:
        raise InvalidTerm(many)
    # From the last one on: the terms in each one have been put together already, its first one last.
    terms = []
    for head in reversed(heads):
        if head[0] == MIX:
            terms.append((*head, terms.pop(), terms.pop()))
        elif head[0] == TURN:
            terms.append((*head, terms.pop()))
        else:
            terms.append(head)
    return terms[0]


def head_told(names, scenario, known, line, told):
    """A term without the terms in it, by its words (KIND, WORD, MORE)."""
    kind, word, more = told
    if kind == EVEN:
        return (EVEN,)
    if kind == POINT:
        return (POINT, section_told(scenario[0], line, word))
    if kind == OF or kind == NAME:
        if not is_known(known, word[1], (JOINT,) if kind == OF else (FAMILY, TERM)):
            raise UnknownName(line, word[0])
        return (kind, word[1])
    if kind == MIX:
        if word[1][0] > word[1][1]:
            raise NoShare(line, word[0])
        return (MIX, word[1])
    observable = observable_told(names, line, word)
    outcomes = outcomes_of(more)
    if not is_each_once(outcomes, scenario[0][observable]):
        raise NoSection(line, more[0])
    return (TURN, observable, outcomes)
