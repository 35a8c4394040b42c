"""The tests' own reader of labs' texts: it tries every way to read a line. Nothing here calls the package.

What is wrong is told as a tuple: the name of the class of the error, and its attributes.
"""

import re
from fractions import Fraction

from tests.own import everything, pair, secs

RESERVED = "observables contexts family weights game joint of even point mix turn rest none".split()
LETTERS, DIGITS = "abcdefghijklmnopqrstuvwxyz", "0123456789"


class Line:
    """A line, and how many of its signs some try could read."""

    def __init__(self, text):
        self.text = text
        self.reach = 0

    def sign(self, at, signs):
        """The places behind one of the signs at a place: one or none."""
        if at < len(self.text) and self.text[at] in signs:
            self.reach = max(self.reach, at + 1)
            return {at + 1}
        return set()


def lit(told):
    def ends(line, at):
        found = {at}
        for sign in told:
            found = {end for place in found for end in line.sign(place, sign)}
        return found
    return ends


def run(signs, most, first=None):
    """One of the first signs, then others, up to so many."""
    def ends(line, at):
        found, last = set(), line.sign(at, signs if first is None else first)
        while last and len(found) < most:
            found |= last
            last = {end for place in last for end in line.sign(place, signs)} if len(found) < most else set()
        return found
    return ends


def seq(*parts):
    def ends(line, at):
        found = {at}
        for part in parts:
            found = {end for place in found for end in part(line, place)}
        return found
    return ends


def alt(*parts):
    def ends(line, at):
        return {end for part in parts for end in part(line, at)}
    return ends


def many(part, between, most):
    def ends(line, at):
        found = last = part(line, at)
        for _ in range(most - 1):
            last = {end for place in last for end in seq(between, part)(line, place)}
            found = found | last
        return found
    return ends


def name(line, at):
    return {end for end in run(LETTERS + DIGITS, 12, LETTERS)(line, at) if line.text[at:end] not in RESERVED}


def term(line, at):
    """One head behind the other, as long as terms are wanted."""
    found, states = set(), {(at, 1)}
    while states:
        further = set()
        for place, wanted in states:
            for head, inside in HEADS:
                for end in head(line, place):
                    if wanted + inside == 1:
                        found.add(end)
                    else:
                        further |= {(begin, wanted + inside - 1) for begin in line.sign(end, " ")}
        states = further
    return found


ROW = run(DIGITS, 60, DIGITS[1:])
POSITIVE = alt(ROW, seq(ROW, lit("/"), ROW))
NUMBER = alt(POSITIVE, lit("0"), seq(lit("0/"), ROW))
SIGNED = alt(NUMBER, seq(lit("-"), POSITIVE))
WORD = run("0123", 6)
HEADS = [
    (lit("even"), 0), (seq(lit("point "), WORD), 0), (seq(lit("of "), name), 0), (name, 0),
    (seq(lit("mix "), NUMBER), 2), (seq(lit("turn "), name, lit(" "), WORD), 1)]
GROUP = many(name, lit(" "), 6)
LAST = alt(seq(WORD, lit(" "), NUMBER), seq(WORD, lit(" rest")))


def with_rest(line, at):
    """Up to 64 parts, the last one with rest, too."""
    plain = seq(WORD, lit(" "), NUMBER)
    found, last = set(LAST(line, at)), plain(line, at)
    for _ in range(63):
        last = {end for place in last for end in lit(", ")(line, place)}
        found |= {end for place in last for end in LAST(line, place)}
        last = {end for place in last for end in plain(line, place)}
    return found


OBSERVABLES = seq(lit("observables "), many(seq(name, lit(" "), run("234", 1)), lit(", "), 6))
CONTEXTS = seq(lit("contexts "), many(GROUP, lit("; "), 20))
BLOCK = alt(seq(alt(lit("family "), lit("weights "), lit("game ")), name),
            seq(lit("joint "), name, lit(": "), with_rest), seq(name, lit(" = "), term))
ROWS = {
    "family": seq(GROUP, lit(": "), with_rest),
    "weights": seq(GROUP, lit(": "), alt(lit("none"), many(seq(WORD, lit(" "), SIGNED), lit(", "), 64))),
    "game": seq(GROUP, lit(" "), NUMBER, lit(": "), alt(lit("none"), many(WORD, lit(" "), 64))),
}


def own_form(text):
    """What InvalidText tells; None if the text has the right form."""
    lines = text.split("\n")
    wanted, blocks, groups, at = [OBSERVABLES, CONTEXTS], 0, 0, 0
    while wanted or at < len(lines):
        if at == len(lines):
            return ("InvalidText", at, 0)
        if not wanted:
            blocks += 1
            if blocks > 20:
                return ("InvalidText", at, 0)
        form = wanted.pop(0) if wanted else BLOCK
        line = Line(lines[at])
        if len(line.text) not in form(line, 0):
            return ("InvalidText", at, line.reach)
        if form is CONTEXTS:
            groups = line.text.count(";") + 1
        if form is BLOCK:
            kind = line.text.split(" ")[0]
            wanted = [ROWS[kind]] * groups if kind in ROWS else []
        at += 1
    return None


class Wrong(Exception):
    """What is wrong is its first argument."""


def placed(line, begin=0):
    """The words of a line, with their places."""
    return [(found.start(), found.group()) for found in re.compile(r"[^ ,;:]+").finditer(line, begin)]


def number_of(word):
    top, _, bottom = word.partition("/")
    return Fraction(int(top), int(bottom or "1"))


class Reader:
    def __init__(self, is_scenario):
        self.is_scenario = is_scenario
        self.names, self.scenario = [], None
        self.things, self.kinds, self.counts = [], {}, {}

    def group(self, at, told):
        found = []
        for place, word in told:
            if word not in self.names:
                raise Wrong(("UnknownName", at, place))
            if word in [self.names[x] for x in found]:
                raise Wrong(("TwiceNamed", at, place))
            found.append(self.names.index(word))
        return found

    def read(self, text):
        lines = text.split("\n")
        told = placed(lines[0])[1:]
        for place, word in told[::2]:
            if word in self.names:
                raise Wrong(("TwiceNamed", 0, place))
            self.names.append(word)
        contexts, begin = [], len("contexts ")
        for group in lines[1][begin:].split("; "):
            contexts.append(tuple(sorted(self.group(1, placed(lines[1][:begin + len(group)], begin)))))
            begin += len(group) + 2
        self.scenario = (tuple(int(size) for _, size in told[1::2]), tuple(sorted(contexts)))
        if not self.is_scenario(self.scenario):
            raise Wrong(("InvalidScenario", self.scenario))
        at = 2
        while at < len(lines):
            at = self.block(lines, at)
        return (tuple(self.names), self.scenario, tuple(self.things))

    def block(self, lines, at):
        words = placed(lines[at])
        kind = words[0][1] if words[1][1] != "=" else "term"
        place, word = words[0] if kind == "term" else words[1]
        if word in self.names or word in self.kinds:
            raise Wrong(("TwiceNamed", at, place))
        behind = at + 1
        if kind == "term":
            value = self.whole_term(at, words[2:], word)
        elif kind == "joint":
            value = self.chances(at, list(range(len(self.names))), words[2:])
        else:
            behind = at + 1 + len(self.scenario[1])
            value = self.table(lines, at, behind, kind)
        self.kinds[word] = kind
        self.things.append((word, kind, value))
        return behind

    def table(self, lines, at, behind, kind):
        rows, shares = {}, {}
        first = None
        for here in range(at + 1, behind):
            colon = lines[here].index(":")
            head, tail = placed(lines[here][:colon]), placed(lines[here], colon)
            if kind == "game":
                *head, (place, share) = head
                first = place if first is None else first
            order = self.group(here, head)
            context = tuple(sorted(order))
            if context not in self.scenario[1]:
                raise Wrong(("NoContext", here, 0))
            if context in rows:
                raise Wrong(("TwiceNamed", here, 0))
            if kind == "family":
                rows[context] = self.chances(here, order, tail)
            elif kind == "game":
                shares[context] = number_of(share)
                won = self.sections(here, order, [] if tail[0][1] == "none" else tail)
                rows[context] = tuple(int(section in won) for section in secs(self.scenario, context))
            else:
                pairs = [] if tail[0][1] == "none" else tail
                table = dict(zip(self.sections(here, order, pairs[::2]), pairs[1::2]))
                rows[context] = tuple(pair(number_of(table[section][1])) if section in table else (0, 1)
                                      for section in secs(self.scenario, context))
        if kind == "game":
            if sum(shares.values()) != 1:
                raise Wrong(("NoSum", at + 1, first))
            return (tuple(pair(shares[context]) for context in self.scenario[1]),
                    tuple(rows[context] for context in self.scenario[1]))
        return tuple(rows[context] for context in self.scenario[1])

    def sections(self, at, order, words):
        """The sections, in the context's own order, of words in the order told."""
        found = []
        for place, word in words:
            told = dict(zip(order, map(int, word)))
            if len(word) != len(order) or any(told[x] >= self.scenario[0][x] for x in order):
                raise Wrong(("NoSection", at, place))
            section = tuple(told[x] for x in sorted(order))
            if section in found:
                raise Wrong(("TwiceNamed", at, place))
            found.append(section)
        return found

    def chances(self, at, order, words):
        found = self.sections(at, order, words[::2])
        numbers = [None if word == "rest" else number_of(word) for _, word in words[1::2]]
        left = 1 - sum(number for number in numbers if number is not None)
        if left < 0 or (left > 0 and None not in numbers):
            raise Wrong(("NoSum", at, words[1][0]))
        table = {section: left if number is None else number for section, number in zip(found, numbers)}
        return tuple(pair(table.get(section, 0)) for section in secs(self.scenario, sorted(order)))

    def whole_term(self, at, words, word):
        found, left, count, named = self.term(at, words)
        assert not left
        if count > 40:
            raise Wrong(("InvalidTerm", count))
        if count + named > 200:
            raise Wrong(("InvalidTerm", count + named))
        self.counts[word] = count + named
        return found

    def term(self, at, words):
        """The term, the words behind it, how many are in it, how many more by name."""
        (place, word), *left = words
        if word == "even":
            return ("even",), left, 1, 0
        if word == "point":
            return ("point", self.sections(at, everything(self.scenario), left[:1])[0]), left[1:], 1, 0
        if word == "of":
            if self.kinds.get(left[0][1]) != "joint":
                raise Wrong(("UnknownName", at, left[0][0]))
            return ("of", left[0][1]), left[1:], 1, 0
        if word == "mix":
            share = number_of(left[0][1])
            if share > 1:
                raise Wrong(("NoShare", at, left[0][0]))
            one, behind, count, named = self.term(at, left[1:])
            two, behind, more, others = self.term(at, behind)
            return ("mix", pair(share), one, two), behind, 1 + count + more, named + others
        if word == "turn":
            x = self.group(at, left[:1])[0]
            outcomes = tuple(map(int, left[1][1]))
            if sorted(outcomes) != list(range(self.scenario[0][x])):
                raise Wrong(("NoSection", at, left[1][0]))
            inside, behind, count, named = self.term(at, left[2:])
            return ("turn", x, outcomes, inside), behind, 1 + count, named
        if self.kinds.get(word) not in ("family", "term"):
            raise Wrong(("UnknownName", at, place))
        return ("name", word), left, 1, self.counts.get(word, 0)


def own_read(text, is_scenario):
    """("lab", LAB), or what is wrong."""
    wrong = own_form(text)
    if wrong is not None:
        return wrong
    try:
        return ("lab", Reader(is_scenario).read(text))
    except Wrong as told:
        return told.args[0]


def printed(number):
    return str(Fraction(*number))


def own_text(lab):
    """A lab as [38] tells it."""
    names, scenario, things = lab

    def group(context):
        return " ".join(names[x] for x in context)

    def parts(lot, row):
        told = [f"{''.join(map(str, section))} {printed(number)}" for section, number in zip(secs(scenario, lot), row)
                if number != (0, 1)]
        return ", ".join(told) or "none"

    def words(told):
        if told[0] == "mix":
            return ["mix", printed(told[1]), *words(told[2]), *words(told[3])]
        if told[0] == "turn":
            return ["turn", names[told[1]], "".join(map(str, told[2])), *words(told[3])]
        if told[0] == "point":
            return ["point", "".join(map(str, told[1]))]
        return list(told[1:] if told[0] == "name" else told)

    lines = ["observables " + ", ".join(f"{word} {size}" for word, size in zip(names, scenario[0]))]
    lines.append("contexts " + "; ".join(map(group, scenario[1])))
    for word, kind, value in things:
        if kind == "term":
            lines.append(f"{word} = {' '.join(words(value))}")
        elif kind == "joint":
            lines.append(f"joint {word}: {parts(everything(scenario), value)}")
        elif kind == "game":
            lines.append(f"game {word}")
            for context, share, marks in zip(scenario[1], *value):
                won = ["".join(map(str, section)) for section, mark in zip(secs(scenario, context), marks) if mark]
                lines.append(f"{group(context)} {printed(share)}: {' '.join(won) or 'none'}")
        else:
            lines.append(f"{kind} {word}")
            lines += [f"{group(context)}: {parts(context, row)}" for context, row in zip(scenario[1], value)]
    return "\n".join(lines)
