"""Reading a line of a lab's text sign by sign, up to the first sign that can't stand there."""

from belltables.errors import InvalidText
from belltables.ratios import lowest
from belltables.terms import DIGITS, LONGEST_NAME, RESERVED, SMALL_LETTERS

LONGEST_ROW = 60
LONGEST_WORD = 6
OUTCOMES = "0123"


class Cursor:
    """A line, told by its index and its signs, and how many of these have been read."""

    def __init__(self, line, text):
        self.line = line
        self.text = text
        self.at = 0

    def stands(self, signs):
        """Whether one of these signs comes now."""
        return self.at < len(self.text) and self.text[self.at] in signs

    def refuse(self):
        """The line is wrong here: all before was the beginning of a right one."""
        raise InvalidText(self.line, self.at)

    def need(self, told):
        """Reads just these signs."""
        for sign in told:
            if not self.stands(sign):
                self.refuse()
            self.at += 1

    def need_end(self):
        """The line ends here."""
        if self.at < len(self.text):
            self.refuse()

    def run(self, first, others, most):
        """Reads one of the first signs, and as many of the others as there are, up to so many together."""
        if not self.stands(first):
            self.refuse()
        begin = self.at
        self.at += 1
        while self.stands(others) and self.at - begin < most:
            self.at += 1
        return self.text[begin:self.at]


def read_letters(cursor):
    """A name, or one of the words that are none."""
    return cursor.run(SMALL_LETTERS, SMALL_LETTERS + DIGITS, LONGEST_NAME)


def read_name(cursor):
    """(PLACE, NAME)."""
    place = cursor.at
    name = read_letters(cursor)
    if name in RESERVED:
        # Some name begins with this word, so it is wrong behind it.
        cursor.refuse()
    return (place, name)


def read_outcomes(cursor):
    """(PLACE, WORD) of a word of outcomes."""
    place = cursor.at
    return (place, cursor.run(OUTCOMES, OUTCOMES, LONGEST_WORD))


def read_row(cursor):
    """The number of a row of digits that does not begin with 0."""
    return int(cursor.run(DIGITS[1:], DIGITS, LONGEST_ROW))


def read_whole(cursor):
    """The number of a row of digits that does not begin with 0, or of 0 alone."""
    if cursor.stands("0"):
        cursor.need("0")
        return 0
    return read_row(cursor)


def read_number(cursor, signed):
    """(PLACE, FRACTION) of a number; if `signed` it may have a - ahead."""
    place = cursor.at
    if signed and cursor.stands("-"):
        cursor.need("-")
        top = -read_row(cursor)
    else:
        top = read_whole(cursor)
    bottom = 1
    if cursor.stands("/"):
        cursor.need("/")
        bottom = read_row(cursor)
    return (place, lowest(top, bottom))
