"""Desks: a lab and a log that change step by step, and all that was there before."""

from belltables.errors import (
    InUse, InvalidLab, InvalidLog, InvalidName, InvalidNumber, InvalidSection, InvalidTerm, NothingToUndo)
from belltables.forms import is_section_by
from belltables.guards import need_context
from belltables.logs import MOST, is_die, play, play_joint
from belltables.shapes import sizes_of
from belltables.standing import rows_in, told_names
from belltables.terms import (
    FAMILY, JOINT, KINDS, MOST_THINGS, NAME, OF, TERM, is_name, is_value_of, known_in, need_lab, need_name)


class Desk:
    """A lab and a log; `past` are the pairs of both before each change."""

    def __init__(self, lab):
        need_lab(lab)
        self.lab = lab
        self.log = ()
        self.past = ()

    def __len__(self):
        """How many changes can be undone."""
        return len(self.past)

    def __bool__(self):
        """A desk without changes is True, too."""
        return True

    def put(self, name, kind, value):
        """Puts a thing behind all others."""
        names, scenario, things = self.lab
        known = known_in(self.lab)
        if not is_name(name) or name in names or name in known:
            raise InvalidName(name)
        if not isinstance(kind, str) or kind not in KINDS:
            raise InvalidTerm(kind)
        if not is_value_of(scenario, known, kind, value):
            raise InvalidTerm(value)
        lab = (names, scenario, things + ((name, kind, value),))
        if len(things) == MOST_THINGS:
            raise InvalidLab(lab)
        self.change(lab, self.log)

    def drop(self, name):
        """Takes away a thing that no term tells."""
        names, scenario, things = self.lab
        need_name(self.lab, name, KINDS)
        for told, kind, value in things:
            if kind == TERM and name in told_names(value, (NAME, OF)):
                raise InUse(told)
        self.change((names, scenario, tuple([thing for thing in things if thing[0] != name])), self.log)

    def note(self, context, section):
        """Puts a pair behind the log."""
        scenario = self.lab[1]
        need_context(scenario, context)
        if not is_section_by(section, sizes_of(scenario, scenario[1][context])):
            raise InvalidSection(section)
        self.need_room()
        self.change(self.lab, self.log + ((context, section),))

    def roll(self, name, context, die):
        """Puts the pair behind the log that a die picks for a context, by a family, a joint distribution or a term."""
        scenario = self.lab[1]
        need_name(self.lab, name, (FAMILY, JOINT, TERM))
        need_context(scenario, context)
        if not is_die(die):
            raise InvalidNumber(die)
        self.need_room()
        self.change(self.lab, self.log + rolled(self.lab, name, (context, die)))

    def need_room(self):
        """Refuses a log that is full."""
        if len(self.log) == MOST:
            raise InvalidLog(None)

    def clear(self):
        """Makes the log empty."""
        self.change(self.lab, ())

    def undo(self):
        """Leads back to what was there before the last change."""
        if len(self.past) == 0:
            raise NothingToUndo()
        self.lab, self.log = self.past[-1]
        self.past = self.past[:-1]

    def change(self, lab, log):
        """Keeps what is there, and puts these in its place."""
        self.past = self.past + ((self.lab, self.log),)
        self.lab = lab
        self.log = log

    def trial(self):
        """For a `with` statement: if its rows end with an exception, the desk is as it was when they began."""
        return Trial(self)

    def tried(self, action):
        """Calls the function with the desk within such a statement, and returns what it returns."""
        with self.trial() as desk:
            return action(desk)


class Trial:
    """What a `with` statement keeps of a desk; `begun` is told anew each time that rows begin."""

    def __init__(self, desk):
        self.desk = desk
        self.begun = None

    def __enter__(self):
        """Keeps what is there now."""
        self.begun = Begun(self.desk, self.begun)
        return self.desk

    def __exit__(self, kind, value, trace):
        """Puts back what was there if the rows ended with an exception."""
        desk = self.desk
        if kind is not None:
            desk.lab = self.begun.lab
            desk.log = self.begun.log
            desk.past = self.begun.past
        self.begun = self.begun.around


class Begun:
    """What a desk was like when rows began, and the one before it if these rows stand within other ones."""

    def __init__(self, desk, around):
        self.lab = desk.lab
        self.log = desk.log
        self.past = desk.past
        self.around = around


def rolled(lab, name, told):
    """The log of one round with the thing of this name."""
    for other, kind, value in lab[2]:
        if other == name and kind == JOINT:
            return play_joint(lab[1], value, (told,))[0]
    return play(lab[1], rows_in(lab, name, lab[1]), (told,))
