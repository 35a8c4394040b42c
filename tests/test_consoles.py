"""Consoles: the form of each line, its errors word by word, its answers, beside a reader and a desk of the tests."""

import unittest
from fractions import Fraction
from itertools import permutations

from belltables import errors
from belltables.consoles import Console
from belltables.desks import Desk
from belltables.fractions import contextual_fraction
from belltables.joint import joint_or_inequality
from belltables.language import lab_text
from tests.harness import Case
from tests.judging import lines, own_log_chance, own_tail
from tests.own import (
    BELL, BOX, COIN, FLAT, GAME, HALF, LIKE, NIL, ONE, PATH, TRIANGLE, UNLIKE, Maker, any_values, everything, frac,
    fracs, own_agreed, own_family, own_sums, own_value, pair, pairs, secs, worlds)
from tests.reading import (
    DIGITS, GROUP, RESERVED, WORD, Line, Reader, Wrong, alt, lit, many, name, own_text, placed, printed, run, seq,
    term, with_rest)
from tests.test_acyclic import own_obstructions
from tests.test_desks import FULL, Model
from tests.test_labs import EVEN, LAB, NAMES, own_is_thing, own_stands
from tests.test_language import SCENARIOS, drawn_lab
from tests.test_logs import own_counts

DIE = alt(lit("0"), run(DIGITS, 60, DIGITS[1:]))
SAID = alt(
    seq(lit("let "), name, lit(" = "), term), seq(lit("joint "), name, lit(": "), with_rest),
    seq(lit("roll "), name, lit(" "), many(name, lit(" "), 6), lit(" "), DIE), seq(lit("note "), GROUP, lit(": "),
                                                                                   WORD),
    seq(lit("value "), name, lit(" "), name),
    *(lit(word) for word in ("clear", "undo", "show", "log", "acyclic")),
    *(seq(lit(word), name) for word in ("drop ", "table ", "chance ", "settle ", "fraction ", "wins ", "level ")))
LOGGED = ((0, (0, 0)), (3, (1, 0)), (0, (1, 1)), (3, (1, 0)), (2, (0, 1)))
SIGNS = "ax019 :,=/-rL\n\t"
EACH = [
    "let half = mix 1/3 noisy turn x 10 point 0101", "let z9 = of coin", "let let = box",
    "joint new: 0010 1/3, 1111 rest",
    "joint sure: 0110 1", "drop both", "drop box", "roll box x a 7", "roll coin y b 12", "roll noisy a y 0",
    "note b y: 10", "note x a: 01", "clear", "undo", "show", "table tame", "log", "chance noisy", "settle tame",
    "settle box", "fraction box", "value win noisy", "wins win", "level win", "acyclic"]


class Error(Exception):
    """What is wrong: the class of the error and a dict of its attributes."""


def refuse(word, **told):
    raise Error(word, told)


class Talk:
    """The tests' own console: a model of a desk, and what it answers."""

    def __init__(self, lab, log=()):
        self.model = Model(lab)
        for context, section in log:
            self.model.note(context, section)

    def done(self, wrong):
        """What a step of the model tells."""
        if wrong is not None:
            kind, attribute, worth = wrong
            refuse(kind.__name__, **({} if attribute is None else {attribute: worth}))
        return "done"

    def reader(self):
        names, scenario, things = self.model.lab
        found = Reader(None)
        found.names, found.scenario = list(names), scenario
        kinds, counts = {}, {}
        for thing in things:
            assert own_is_thing(scenario, kinds, counts, thing)
        found.kinds, found.counts = kinds, counts
        return found

    def say(self, text):
        line = Line(text)
        if len(text) not in SAID(line, 0):
            refuse("InvalidText", line=0, place=line.reach)
        words = placed(text)
        try:
            return getattr(self, "say_" + words[0][1])(text, words[1:])
        except Wrong as told:
            word, *more = told.args[0]
            refuse(word, **dict(zip(("line", "place") if len(more) == 2 else ("given",), more)))

    def new_name(self, told):
        place, word = told
        if word in self.model.lab[0] or word in [other for other, _, _ in self.model.lab[2]]:
            refuse("TwiceNamed", line=0, place=place)
        return word

    def say_let(self, text, words):
        word = self.new_name(words[0])
        return self.done(self.model.put(word, "term", self.reader().whole_term(0, words[2:], word)))

    def say_joint(self, text, words):
        word = self.new_name(words[0])
        return self.done(self.model.put(
            word, "joint", self.reader().chances(0, everything(self.model.lab[1]), words[1:])))

    def thing(self, told, kinds):
        for word, kind, value in self.model.lab[2]:
            if word == told[1] and kind in kinds:
                return value
        return refuse("InvalidName", given=told[1])

    def group(self, words):
        order = self.reader().group(0, words)
        if tuple(sorted(order)) not in self.model.lab[1][1]:
            refuse("NoContext", line=0, place=words[0][0])
        return order, self.model.lab[1][1].index(tuple(sorted(order)))

    def titled(self, context):
        return " ".join(self.model.lab[0][x] for x in context)

    def say_drop(self, text, words):
        self.thing(words[0], ("family", "joint", "weights", "game", "term"))
        return self.done(self.model.drop(words[0][1]))

    def say_roll(self, text, words):
        self.thing(words[0], ("family", "joint", "term"))
        _, at = self.group(words[1:-1])
        self.done(self.model.roll(words[0][1], at, int(words[-1][1])))
        return f"{self.titled(self.model.lab[1][1][at])}: {''.join(map(str, self.model.log[-1][1]))}"

    def say_note(self, text, words):
        order, at = self.group(words[:-1])
        section = self.reader().sections(0, order, words[-1:])[0]
        return self.done(self.model.note(at, section))

    def say_clear(self, text, words):
        return self.done(self.model.clear())

    def say_undo(self, text, words):
        return self.done(self.model.undo())

    def number(self, number):
        told = pair(number)
        if abs(told[0]) >= 10 ** 60 or told[1] >= 10 ** 60:
            refuse("InvalidNumber", given=told)
        return printed(told)

    def parts(self, lot, row):
        told = [f"{''.join(map(str, section))} {self.number(number)}"
                for section, number in zip(secs(self.model.lab[1], lot), row) if number]
        return ", ".join(told)

    def say_show(self, text, words):
        # The first number that is too great is found by the way the package prints it.
        for _, kind, value in self.model.lab[2]:
            for number in numbers_in(value) if kind != "game" else value[0]:
                self.number(frac(number))
        return own_text(self.model.lab)

    def family(self, told):
        self.thing(told, ("family", "term"))
        return pairs(own_stands(self.model.lab, ("name", told[1])))

    def game(self, told):
        return self.thing(told, ("game",))

    def say_table(self, text, words):
        scenario = self.model.lab[1]
        return "\n".join(f"{self.titled(context)}: {self.parts(context, row)}"
                         for context, row in zip(scenario[1], fracs(self.family(words[0]))))

    def say_log(self, text, words):
        scenario = self.model.lab[1]
        told = [f"{self.titled(context)}: {self.parts(context, row)}"
                for context, row in zip(scenario[1], own_counts(scenario, self.model.log)) if any(row)]
        return "\n".join(told) or "empty"

    def say_chance(self, text, words):
        return self.number(own_log_chance(self.model.lab[1], self.model.log, self.family(words[0])))

    def say_settle(self, text, words):
        """Any joint distribution is right: told as a test of the answer."""
        scenario, family = self.model.lab[1], self.family(words[0])
        word, weights = joint_or_inequality(scenario, family)
        if word == "inequality":
            assert own_value(weights, family) > max(own_sums(scenario, weights))
            return "contextual"

        def is_right(answer):
            told = dict(part.split(" ") for part in answer.split(", "))
            row = [Fraction(told.get("".join(map(str, world)), 0)) for world in worlds(scenario)]
            return own_family(scenario, row) == fracs(family) and self.parts(everything(scenario), row) == answer

        return is_right

    def say_fraction(self, text, words):
        return self.number(frac(contextual_fraction(self.model.lab[1], self.family(words[0]))))

    def say_value(self, text, words):
        game, family = self.game(words[0]), self.family(words[1])
        if not own_agreed(self.model.lab[1], family):
            refuse("NotAgreed")
        return self.number(own_value(lines(game), family))

    def won(self, told):
        game = self.game(told)
        if len(self.model.log) > 100:
            refuse("InvalidLog", index=None)
        scenario = self.model.lab[1]
        return sum(game[1][at][secs(scenario, scenario[1][at]).index(section)] for at, section in self.model.log)

    def say_wins(self, text, words):
        return f"{self.won(words[0])} of {len(self.model.log)}"

    def say_level(self, text, words):
        won, best = self.won(words[0]), max(own_sums(self.model.lab[1], lines(self.game(words[0]))))
        return self.number(own_tail(len(self.model.log), won, best))

    def say_acyclic(self, text, words):
        rights = [f"{kind} {' '.join(self.model.lab[0][x] for x in lot)}"
                  for kind, lot in own_obstructions(self.model.lab[1])]
        return (lambda answer: answer in rights) if rights else "yes"


def numbers_in(value):
    """The fractions of a thing's value, in order."""
    if type(value) is tuple and len(value) == 2 and all(type(number) is int for number in value):
        return [value]
    if type(value) is tuple and value[:1] in (("point",), ("turn",)):
        return numbers_in(value[3]) if value[0] == "turn" else []
    return [number for inside in value for number in numbers_in(inside)] if type(value) is tuple else []


class Talking(Case):
    def agrees(self, console, talk, text):
        """The same answer or error from both, and the same desk behind it; the error's name, or None."""
        desk = console.desk
        kept = (desk.lab, desk.log, len(desk))
        try:
            told = talk.say(text)
        except Error as wrong:
            word, attributes = wrong.args
            with self.assertRaises(errors.LabError) as caught:
                console.say(text)
            self.assertIs(type(caught.exception), getattr(errors, word), (text, attributes, vars(caught.exception)))
            self.assertEqual(repr(vars(caught.exception)), repr(attributes), text)
            self.assertEqual((desk.lab, desk.log, len(desk)), kept)
            return word
        answer = console.say(text)
        self.assertIs(type(answer), str)
        if isinstance(told, str):
            self.assertEqual(answer, told, text)
        else:
            self.assertTrue(told(answer), (text, answer))
        self.assertEqual((desk.lab, desk.log, len(desk)),
                         (talk.model.lab, talk.model.log, len(talk.model.states) - 1), text)
        return None

    def both(self, lab, log=()):
        desk = Desk(lab)
        for context, section in log:
            desk.note(context, section)
        return Console(desk), Talk(lab, log)

    def goes_back(self, console, talk, text):
        """As above, and both are then as they were."""
        many, states = len(console.desk), list(talk.model.states)
        word = self.agrees(console, talk, text)
        if len(console.desk) == many - 1:
            lab, log = states[-1]
            console.desk.note(0, (0, 0))
            self.assertNotEqual(log, ())
            console.desk.undo()
            console.desk.note(*log[-1])
        elif len(console.desk) == many + 1:
            console.desk.undo()
        talk.model.states = states
        return word

    def fails(self, lab, text, word, log=(), **told):
        """This error, by both."""
        console, talk = self.both(lab, log)
        self.assertEqual(self.agrees(console, talk, text), word)
        with self.assertRaises(Error) as caught:
            talk.say(text)
        self.assertEqual(caught.exception.args, (word, told))


class Forms(Talking):
    def test_each(self):
        for text in EACH:
            console, talk = self.both(LAB, LOGGED)
            word = self.agrees(console, talk, text)
            self.assertEqual(word, "InUse" if text == "drop box" else None, text)

    def test_changed(self):
        """Each sign left out, exchanged, put in; each beginning; a blank twice."""
        console, talk = self.both(LAB, LOGGED)
        words = {}
        for text in EACH:
            others = [text[:at] for at in range(len(text))]
            for at in range(len(text) + 1):
                others.append(text[:at] + text[at + 1:])
                others += [text[:at] + sign + text[at:] for sign in SIGNS]
                others += [text[:at] + sign + text[at + 1:] for sign in SIGNS]
            for other in others:
                word = self.goes_back(console, talk, other)
                words[word] = words.get(word, 0) + 1
        self.assertLessEqual({None, "InvalidText", "TwiceNamed", "UnknownName", "NoContext", "NoSection", "NoSum",
                              "InvalidName"}, set(words))
        self.assertGreater(words["InvalidText"], 5000)

    def test_first_words(self):
        """What the lines may begin with, sign by sign."""
        for text, place in (("", 0), ("x", 0), ("l", 1), ("le", 2), ("lex", 2), ("let", 3), ("lev", 3), ("lo", 2),
                            ("lox", 2), ("logs", 3), ("log ", 3), ("log\n", 3), ("Log", 0), (" log", 0), ("c", 1),
                            ("cl", 2), ("cho", 2), ("clear ", 5), ("undo it", 4), ("show x", 4), ("acyclic a", 7),
                            ("s", 1), ("sh", 2), ("settle", 6), ("settled", 6), ("set ", 3), ("drop", 4), ("drop ", 5),
                            ("drop  x", 5), ("drop x ", 6), ("drop x y", 6), ("values", 5), ("value win", 9),
                            ("value win ", 10), ("value win box ", 13), ("family box", 1), ("joint", 5), ("join", 4),
                            ("jointly", 5), ("let a", 5), ("let a=", 5), ("let a =", 7), ("let a = ", 8),
                            ("let a = mix 1 even", 18), ("let even = box", 8), ("let evens = box", None),
                            ("roll", 4), ("roll box", 8), ("roll box ", 9), ("roll box a", 10), ("roll box a ", 11),
                            ("roll box 7", 9), ("roll box a x", 12), ("roll box a x ", 13), ("roll box a x 07", 14),
                            ("roll box a x -1", 13), ("roll box a x 1 ", 14), ("roll box a x 1/2", 14),
                            ("note", 4), ("note ", 5), ("note a x", 8), ("note a x:", 9), ("note a x: ", 10),
                            ("note a x: 4", 10), ("note a x: 00 ", 12), ("note a x: 0000000", 16), ("note : 00", 5),
                            ("joint j: 0000 1, ", 17), ("joint j: 0000 rest, 1111 0", 18), ("joint j: none", 9),
                            ("joint j: 0000 -1", 14), ("table", 5), ("fractions", 8), ("wins  win", 5)):
            console, talk = self.both(LAB, LOGGED)
            word = self.agrees(console, talk, text)
            if place is None:
                self.assertIsNone(word)
                continue
            with self.assertRaises(errors.InvalidText) as caught:
                console.say(text)
            self.assertEqual(vars(caught.exception), {"line": 0, "place": place}, text)

    def test_names(self):
        """Words that are no names, wherever a name stands."""
        for form in ("let {} = even", "joint {}: 0000 1", "drop {}", "roll {} a x 1", "roll box a {} 1",
                     "note {} a: 00",
                     "table {}", "chance {}", "settle {}", "fraction {}", "value {} box", "value win {}", "wins {}",
                     "level {}", "let n = {}", "let n = of {}", "let n = turn {} 10 even"):
            for word in RESERVED + ["a123456789012", "9a", "A", "a_", "\u00e4", "a\u0661"]:
                console, talk = self.both(LAB)
                self.goes_back(console, talk, form.format(word))
            for word in ("offer", "evens", "a12345678901", "rest1", "n", "let", "drop"):
                console, talk = self.both(LAB)
                self.assertNotEqual(self.goes_back(console, talk, form.format(word)), "InvalidText")

    def test_dice(self):
        for die, is_right in (("0", True), ("9" * 60, True), ("1" + "0" * 59, True), ("9" * 61, False), ("00", False),
                              ("01", False), ("1" + "0" * 60, False), ("-0", False), ("+1", False), ("\u0661", False),
                              ("1.5", False), ("", False)):
            console, talk = self.both(LAB)
            self.assertEqual(self.agrees(console, talk, f"roll box a x {die}"), None if is_right else "InvalidText")
        self.fails(LAB, "roll box a x " + "9" * 61, "InvalidText", line=0, place=73)

    def test_long_numbers(self):
        """Rows of 60 digits are read, those of 61 are not, wherever a number stands."""
        most = "1" + "0" * 59
        for form in ("let n = mix 1/{} box even", "joint n: 0000 1/{}, 1111 rest", "let n = mix 0/{} box even"):
            for digits, is_right in ((most, True), ("9" * 60, True), (most + "0", False), ("0" + most[1:], False)):
                console, talk = self.both(LAB)
                text = form.format(digits)
                self.assertEqual(self.agrees(console, talk, text), None if is_right else "InvalidText")
        self.fails(LAB, f"let n = mix 1/{most}0 box even", "InvalidText", line=0, place=74)
        console, talk = self.both(LAB)
        self.assertIsNone(self.agrees(console, talk, f"let n = mix 1/{most} box even"))
        self.assertIsNone(self.agrees(console, talk, "show"))

    def test_groups(self):
        """Up to six names, and no seventh."""
        six = ("a", "b", "c", "d", "e", "f")
        lab = (six, ((2,) * 6, ((0, 1, 2, 3, 4, 5),)), (("j", "joint", (ONE,) + (NIL,) * 63),))
        for order in list(permutations(six))[::97]:
            console, talk = self.both(lab)
            text = " ".join(order)
            self.assertIsNone(self.agrees(console, talk, f"note {text}: 001123".replace("23", "01")))
            self.assertIsNone(self.agrees(console, talk, f"roll j {text} 5"))
            self.assertEqual(self.agrees(console, talk, f"note {text} a: 001101"), "InvalidText")
            self.assertEqual(self.agrees(console, talk, f"roll j {text} a 5"), "InvalidText")
        self.fails(lab, "note a b c d e f g: 0", "InvalidText", line=0, place=16)
        self.fails(lab, "roll j a b c d e f g 0", "InvalidText", line=0, place=19)

    def test_any_value(self):
        console = Console(Desk(LAB))
        for value in any_values():
            if isinstance(value, str):
                self.assertIn(type(self.caught(console, value)), (errors.InvalidText,))
            else:
                self.refuses_text(console, value)
        self.refuses_text(console, b"clear")
        self.refuses_text(console, ["clear"])
        self.assertEqual(len(console.desk), 0)

    def caught(self, console, text):
        with self.assertRaises(errors.LabError) as caught:
            console.say(text)
        return caught.exception

    def refuses_text(self, console, value):
        for error in (self.caught(console, value),):
            self.assertIs(type(error), errors.InvalidText)
            self.assertEqual(vars(error), {"line": None, "place": None})

    def test_no_desk(self):
        class Like:
            lab, log = LAB, ()

        for value in any_values() + [LAB, Like(), Like, Desk, Console(Desk(LAB))]:
            self.refuses((errors.NotADesk, "given", value), Console, value)
            self.refuses((errors.NotADesk, "given", value), Console, desk=value)
        self.assertEqual(Console(desk=Desk(LAB)).say(line="log"), "empty")


class Meaning(Talking):
    def test_errors(self):
        for text, word, told in (
                ("let box = even", "TwiceNamed", {"line": 0, "place": 4}),
                ("let a = even", "TwiceNamed", {"line": 0, "place": 4}),
                ("let box = nobody", "TwiceNamed", {"line": 0, "place": 4}),
                ("joint coin: 0000 1/2", "TwiceNamed", {"line": 0, "place": 6}),
                ("joint x: 0000 1", "TwiceNamed", {"line": 0, "place": 6}),
                ("let n = nobody", "UnknownName", {"line": 0, "place": 8}),
                ("let n = coin", "UnknownName", {"line": 0, "place": 8}),
                ("let n = win", "UnknownName", {"line": 0, "place": 8}),
                ("let n = n", "UnknownName", {"line": 0, "place": 8}),
                ("let n = of box", "UnknownName", {"line": 0, "place": 11}),
                ("let n = turn z 10 even", "UnknownName", {"line": 0, "place": 13}),
                ("let n = turn x 00 even", "NoSection", {"line": 0, "place": 15}),
                ("let n = point 000", "NoSection", {"line": 0, "place": 14}),
                ("let n = mix 3/2 box nobody", "NoShare", {"line": 0, "place": 12}),
                ("let n = mix 1/2 nobody mix 3 box box", "UnknownName", {"line": 0, "place": 16}),
                ("let n = " + "turn a 10 " * 40 + "even", "InvalidTerm", {"given": 41}),
                ("joint n: 0000 1/2, 1111 1/3", "NoSum", {"line": 0, "place": 14}),
                ("joint n: 0000 3/2, 1111 rest", "NoSum", {"line": 0, "place": 14}),
                ("joint n: 0000 1/2, 0000 1/2", "TwiceNamed", {"line": 0, "place": 19}),
                ("joint n: 0000 1/2, 002 1/2", "NoSection", {"line": 0, "place": 19}),
                ("joint n: 0000 1/2, 0020 1/2", "NoSection", {"line": 0, "place": 19}),
                ("drop nobody", "InvalidName", {"given": "nobody"}), ("drop a", "InvalidName", {"given": "a"}),
                ("drop box", "InUse", {"given": "noisy"}), ("drop coin", "InUse", {"given": "tame"}),
                ("drop noisy", "InUse", {"given": "both"}),
                ("roll nobody z z 1", "InvalidName", {"given": "nobody"}),
                ("roll chsh a x 1", "InvalidName", {"given": "chsh"}),
                ("roll win a x 1", "InvalidName", {"given": "win"}), ("roll a a x 1", "InvalidName", {"given": "a"}),
                ("roll box z a a 1", "UnknownName", {"line": 0, "place": 9}),
                ("roll box a a z 1", "TwiceNamed", {"line": 0, "place": 11}),
                ("roll box a z a 1", "UnknownName", {"line": 0, "place": 11}),
                ("roll box b a 1", "NoContext", {"line": 0, "place": 9}),
                ("roll box a 1", "NoContext", {"line": 0, "place": 9}),
                ("note a b: 333", "NoContext", {"line": 0, "place": 5}),
                ("note a a: 00", "TwiceNamed", {"line": 0, "place": 7}),
                ("note a box: 00", "UnknownName", {"line": 0, "place": 7}),
                ("note x a: 02", "NoSection", {"line": 0, "place": 10}),
                ("note x a: 000", "NoSection", {"line": 0, "place": 10}),
                ("table coin", "InvalidName", {"given": "coin"}), ("table chsh", "InvalidName", {"given": "chsh"}),
                ("chance coin", "InvalidName", {"given": "coin"}), ("settle win", "InvalidName", {"given": "win"}),
                ("settle coin", "InvalidName", {"given": "coin"}), ("fraction x", "InvalidName", {"given": "x"}),
                ("fraction coin", "InvalidName", {"given": "coin"}), ("value box win", "InvalidName", {"given": "box"}),
                ("value win win", "InvalidName", {"given": "win"}),
                ("value chsh nobody", "InvalidName", {"given": "chsh"}),
                ("value win coin", "InvalidName", {"given": "coin"}), ("wins box", "InvalidName", {"given": "box"}),
                ("level chsh", "InvalidName", {"given": "chsh"}), ("undo", "NothingToUndo", {})):
            console, talk = self.both(LAB)
            self.assertEqual(self.agrees(console, talk, text), word, text)
            self.fails(LAB, text, word, **told)

    def test_long_terms(self):
        """More than 200 with those told by name: 39 and twenty times 6 are not, twice as many are."""
        console, talk = self.both(LAB)
        self.assertIsNone(self.agrees(console, talk, "let n = " + "mix 1 both " * 19 + "both"))
        self.assertEqual(self.agrees(console, talk, "let m = mix 1 n n"), "InvalidTerm")
        self.refuses((errors.InvalidTerm, "given", 321), console.say, "let m = mix 1 n n")
        self.assertIsNone(self.agrees(console, talk, "let m = mix 1 n both"))

    def test_all_kinds(self):
        """Each name of each kind behind each word."""
        forms = ("drop {}", "roll {} a x 3", "table {}", "chance {}", "settle {}", "fraction {}", "value win {}",
                 "value {} box", "wins {}", "level {}", "let n = {}", "let n = of {}", "let {} = even",
                 "joint {}: 0101 1")
        for form in forms:
            for word in ("box", "coin", "chsh", "win", "noisy", "tame", "both", "a", "y", "nobody"):
                console, talk = self.both(LAB, LOGGED)
                self.agrees(console, talk, form.format(word))

    def test_full(self):
        """A full lab and a full log are told last."""
        lab = (NAMES, BELL, FULL)
        self.fails(lab, "let more = t0", "InvalidLab", given=(NAMES, BELL, FULL + (("more", "term", ("name", "t0")),)))
        self.fails(lab, "let t0 = t0", "TwiceNamed", line=0, place=4)
        self.fails(lab, "let more = nobody", "UnknownName", line=0, place=11)
        self.fails(lab, "joint j: 0000 1/2", "NoSum", line=0, place=14)
        row = (ONE,) + (NIL,) * 15
        self.fails(lab, "joint j: 0000 1", "InvalidLab", given=(NAMES, BELL, FULL + (("j", "joint", row),)))
        log = ((0, (0, 1)),) * 400
        self.fails(LAB, "note x a: 00", "InvalidLog", log, index=None)
        self.fails(LAB, "roll box x a 1", "InvalidLog", log, index=None)
        self.fails(LAB, "note x a: 03", "NoSection", log, line=0, place=10)
        self.fails(LAB, "roll win x a 1", "InvalidName", log, given="win")
        for text in ("wins win", "level win"):
            self.fails(LAB, text, "InvalidLog", log[:101], index=None)
            console, talk = self.both(LAB, log[:100])
            self.assertIsNone(self.agrees(console, talk, text))
        self.fails(LAB, "wins box", "InvalidName", log, given="box")

    def test_not_agreed(self):
        family = (LIKE, LIKE, LIKE, (ONE, NIL, NIL, NIL))
        lab = (NAMES, BELL, (("f", "family", family), ("g", "game", GAME)))
        self.fails(lab, "value g f", "NotAgreed")
        for text in ("fraction f", "settle f", "table f", "chance f", "roll f a x 2"):
            console, talk = self.both(lab, LOGGED)
            self.assertIsNone(self.agrees(console, talk, text))

    def test_great_numbers(self):
        most = 10 ** 60 - 1
        for bottom, is_right in ((most, True), (most + 1, False)):
            number, rest = (1, bottom), (bottom - 1, bottom)
            things = (("f", "family", ((number, rest),)), ("g", "game", ((ONE,), ((1, 0),))),
                      ("t", "term", ("mix", number, ("point", (0,)), ("point", (1,)))), ("j", "joint", (number, rest)))
            lab = (("a",), COIN, things)
            for text in ("show", "table f", "table t", "chance f", "value g f", "value g t"):
                console, talk = self.both(lab, ((0, (0,)),))
                wrong = None if is_right else "InvalidNumber"
                self.assertEqual(self.agrees(console, talk, text), wrong, text)
                if not is_right:
                    self.fails(lab, text, "InvalidNumber", ((0, (0,)),), given=number)
            # There is one joint distribution alone.
            console, talk = self.both(lab)
            if is_right:
                self.assertIsNone(self.agrees(console, talk, "settle f"))
            else:
                self.refuses((errors.InvalidNumber, "given", number), console.say, "settle t")
        # Products of the log, and the level, get there by themselves.
        lab = (("a",), COIN, (("f", "family", ((HALF, HALF),)), ("g", "game", ((ONE,), ((1, 0),)))))
        for many, is_right in ((199, True), (200, False)):
            console, talk = self.both(lab, ((0, (0,)),) * many)
            self.assertEqual(self.agrees(console, talk, "chance f"), None if is_right else "InvalidNumber")
        self.fails(lab, "chance f", "InvalidNumber", ((0, (1,)),) * 300, given=(1, 2 ** 300))
        lab = (NAMES, BELL, (("g", "game", GAME),))
        for many, is_right in ((99, True), (100, False)):
            console, talk = self.both(lab, ((0, (0, 0)),) * many)
            self.assertEqual(self.agrees(console, talk, "level g"), None if is_right else "InvalidNumber")

    def test_fraction_too_great(self):
        bottom = 10 ** 60 + 7
        share = (2 * bottom // 3, bottom)
        lab = (NAMES, BELL, (("box", "family", BOX), ("t", "term", ("mix", pair(frac(share)), ("name", "box"), EVEN))))
        console, talk = self.both(lab)
        self.assertEqual(self.agrees(console, talk, "fraction t"), "InvalidNumber")
        self.assertIsNone(self.agrees(console, talk, "settle t"))
        self.assertEqual(console.say("settle t"), "contextual")


class Answers(Talking):
    def test_orders_of_names(self):
        """Names of a group in whatever order, words of outcomes with them."""
        scenario = ((2, 2, 3), ((0, 1, 2),))
        row = Maker(201).distribution(scenario)
        lab = (("p", "q", "r"), scenario, (("j", "joint", row), ("t", "term", ("of", "j"))))
        for order in permutations(range(3)):
            console, talk = self.both(lab)
            group = " ".join("pqr"[x] for x in order)
            for world in worlds(scenario):
                self.assertIsNone(self.agrees(console, talk, f"note {group}: {''.join(str(world[x]) for x in order)}"))
                self.assertEqual(console.desk.log[-1], (0, world))
            for die in range(12):
                self.assertIsNone(self.agrees(console, talk, f"roll j {group} {die}"))
                self.assertIsNone(self.agrees(console, talk, f"roll t {group} {die}"))
            self.agrees(console, talk, "log")

    def test_by_hand(self):
        console = Console(Desk(LAB))
        told = ["roll box x a 1", "note y b: 10", "log", "chance noisy", "wins win", "level win", "fraction box",
                "fraction noisy", "settle box", "value win box", "value win noisy", "acyclic", "undo", "log", "clear",
                "log", "wins win", "level win", "chance box"]
        self.assertEqual([console.say(line) for line in told], [
            "a x: 11", "done", "a x: 11 1\nb y: 01 1", "9/64", "2 of 2", "9/16", "1", "0", "contextual", "1", "3/4",
            "cycle a x b y", "done", "a x: 11 1", "done", "empty", "0 of 0", "1", "1"])
        self.assertEqual(console.say("table box"), "a x: 00 1/2, 11 1/2\na y: 00 1/2, 11 1/2\nb x: 00 1/2, 11 1/2\n"
                                                   "b y: 01 1/2, 10 1/2")
        self.assertEqual(console.say("show"), lab_text(LAB))
        self.assertEqual(console.say("settle tame").count("rest"), 0)

    def test_acyclic(self):
        names = ("p", "q", "r", "s", "t", "u")
        for scenario in SCENARIOS + [PATH, TRIANGLE]:
            console, talk = self.both((names[:len(scenario[0])], scenario, ()))
            self.assertIsNone(self.agrees(console, talk, "acyclic"))
        self.assertEqual(Console(Desk((names[:3], TRIANGLE, ()))).say("acyclic"), "simplex p q r")
        self.assertEqual(Console(Desk((names[:3], PATH, ()))).say("acyclic"), "yes")

    def test_on_one_desk(self):
        """Two consoles and calls of the desk itself have one lab and one log."""
        desk = Desk(LAB)
        one, other = Console(desk), Console(desk)
        one.say("note a x: 01")
        desk.put("new", "family", FLAT)
        self.assertEqual(other.say("chance new"), "1/4")
        self.assertEqual([other.say("drop new"), other.say("undo"), one.say("undo"), one.say("log"), one.say("undo"),
                          other.say("log")], ["done", "done", "done", "a x: 01 1", "done", "empty"])
        self.assertEqual((desk.lab, desk.log, len(desk)), (LAB, (), 0))

    def test_undone(self):
        console, talk = self.both(LAB)
        for text in ("let n = box", "joint m: 0000 1", "drop both", "roll box a x 3", "note a x: 00", "clear"):
            self.assertIsNone(self.agrees(console, talk, text))
        for _ in range(6):
            self.assertIsNone(self.agrees(console, talk, "undo"))
            self.agrees(console, talk, "show")
            self.agrees(console, talk, "log")
        self.assertEqual(self.agrees(console, talk, "undo"), "NothingToUndo")

    def test_in_a_trial(self):
        desk = Desk(LAB)
        console = Console(desk)
        with self.assertRaises(errors.UnknownName):
            with desk.trial():
                console.say("note a x: 00")
                console.say("let n = nobody")
        self.assertEqual((desk.log, len(desk)), ((), 0))

    def test_drawn_talks(self):
        """Lines in drawn orders, on labs of all scenarios."""
        maker = Maker(202)
        draw = maker.random
        words = {}
        for scenario in SCENARIOS:
            for _ in range(2):
                names, _, things = drawn_lab(maker, scenario)
                more = (("fm", "family", maker.family(scenario)), ("gm", "game", maker.game(scenario)))
                console, talk = self.both((names, scenario, things + more))
                for _ in range(60):
                    names, _, things = talk.model.lab
                    named = [name for name, _, _ in things] or ["t0"]
                    context = draw.choice(scenario[1])
                    order = draw.sample(context, len(context))
                    group = " ".join(names[x] for x in order)
                    world = draw.choice(worlds(scenario))
                    one, two = draw.choice(named), draw.choice(named)
                    game = draw.choice([name for name, kind, _ in things if kind == "game"] or named)
                    turn = f"turn {names[0]} {'10' if scenario[0][0] == 2 else '0123'}"
                    text = draw.choice([
                        f"let n{draw.randrange(9)} = mix 1/3 {one} {turn} {two}",
                        f"let n{draw.randrange(9)} = {one}", f"let n{draw.randrange(9)} = of {one}",
                        f"joint n{draw.randrange(9)}: {''.join(map(str, world))} 1/3, {'0' * len(names)} rest",
                        f"drop {one}", f"roll {one} {group} {draw.randrange(10 ** 6)}", f"roll {one} {group} 0",
                        f"note {group}: {''.join(str(world[x]) for x in order)}", "clear", "undo", "undo", "show",
                        f"table {one}", "log", f"chance {one}", f"settle {one}", f"fraction {one}",
                        f"value {game} {two}", f"value {game} {one}", f"wins {game}", f"level {game}", "acyclic"])
                    word = self.agrees(console, talk, text)
                    words[word] = words.get(word, 0) + 1
        self.assertGreater(words[None], 300)
        self.assertLessEqual({"InvalidName", "UnknownName", "TwiceNamed", "InUse", "NotAgreed"}, set(words))

    def test_settled(self):
        """Distributions of drawn noncontextual families, and of those at the edge."""
        maker = Maker(203)
        for scenario in (BELL, TRIANGLE, PATH, SCENARIOS[5]):
            for zeros in (0, 60, 90):
                things = (("f", "family", maker.joint_family(scenario, 9, zeros)),)
                console, talk = self.both((("a", "b", "x", "y")[:len(scenario[0])], scenario, things))
                self.assertIsNone(self.agrees(console, talk, "settle f"))
                self.assertNotEqual(console.say("settle f"), "contextual")
        edge = (LIKE, LIKE, LIKE, tuple(pair((frac(a) + frac(b)) / 2) for a, b in zip(LIKE, UNLIKE)))
        for share in (Fraction(1), Fraction(99, 100), Fraction(101, 100)):
            row = tuple(pair(frac(a) + (frac(b) - frac(a)) * share) for a, b in zip(LIKE, edge[3]))
            console, talk = self.both((NAMES, BELL, (("f", "family", edge[:3] + (row,)),)))
            self.assertIsNone(self.agrees(console, talk, "settle f"))


if __name__ == "__main__":
    unittest.main()
