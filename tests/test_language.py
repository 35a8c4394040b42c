"""[36] to [38]: texts of labs, their errors, what is printed and read back."""

import unittest
from itertools import permutations, product

from belltables import errors
from belltables.labs import is_lab
from belltables.language import lab_text, read_lab
from belltables.scenarios import is_scenario
from tests.harness import Case, Spec
from tests.own import BELL, BOX, HALF, NIL, ONE, QUARTER, Maker, any_values, secs, worlds
from tests.reading import RESERVED, own_read, own_text
from tests.test_arguments import given

TEXT = "\n".join([
    "observables a 2, b2 2, x 3", "contexts x a; b2 x",
    "family box", "a x: 00 1/2, 11 1/4, 02 rest", "x b2: 00 3/4, 11 2/8",
    "weights w", "x b2: 21 -7/3, 00 12", "x a: none",
    "game g", "x b2 1/3: 00 21", "a x 4/6: none",
    "joint coin: 000 1/2, 112 rest",
    "joint sure: 102 1",
    "tame = mix 1/3 of coin turn x 120 point 011",
    "noisy = mix 0 box mix 1 tame even", "again = noisy"])
LINES = TEXT.split("\n")
LONG = "1" + "0" * 59
SIGNS = "ab1208r-/ ,;:=\n"


class Reading(Case):
    def agrees(self, text):
        """The same answer as the tests' own reader."""
        told = own_read(text, is_scenario)
        if told[0] == "lab":
            found = read_lab(text)
            self.assertEqual(repr(found), repr(told[1]), text)
        else:
            self.fails(text, told)
        return told[0]

    def fails(self, text, told):
        with self.assertRaises(errors.LabError) as caught:
            read_lab(text)
        error = caught.exception
        self.assertIs(type(error), getattr(errors, told[0]), (text, told, vars(error)))
        names = ("line", "place") if len(told) == 3 else ("given",)
        self.assertEqual(vars(error), dict(zip(names, told[1:])), (text, told))

    def changed(self, at, line, told=None):
        """The text with another line; if an error is told, it is that one."""
        text = "\n".join(LINES[:at] + [line] + LINES[at + 1:])
        if told is not None:
            self.fails(text, told)
        return self.agrees(text)


class Forms(Reading):
    def test_right(self):
        lab = read_lab(TEXT)
        self.assertEqual(self.agrees(TEXT), "lab")
        self.assertIs(is_lab(lab), True)
        self.assertEqual(lab[2][0], ("box", "family", (
            ((1, 2), NIL, QUARTER, NIL, QUARTER, NIL), ((3, 4), NIL, NIL, NIL, QUARTER, NIL))))
        self.assertEqual(lab[2][1][2], ((NIL,) * 6, ((12, 1), NIL, NIL, NIL, NIL, (-7, 3))))
        self.assertEqual(lab[2][2][2], (((2, 3), (1, 3)), ((0,) * 6, (1, 0, 0, 0, 0, 1))))
        self.assertEqual(lab[2][5], ("tame", "term", ("mix", (1, 3), ("of", "coin"),
                                                      ("turn", 2, (1, 2, 0), ("point", (0, 1, 1))))))

    def test_least(self):
        self.assertEqual(read_lab("observables a 2\ncontexts a"), (("a",), ((2,), ((0,),)), ()))

    def test_any_value(self):
        for value in any_values():
            if isinstance(value, str):
                self.fails(value, ("InvalidText", 0, 0))
            else:
                self.fails(value, ("InvalidText", None, None))

    def test_left_out(self):
        """One sign left out at each place."""
        for at in range(len(TEXT)):
            self.agrees(TEXT[:at] + TEXT[at + 1:])

    def test_put_in(self):
        for at in range(len(TEXT) + 1):
            for sign in SIGNS:
                self.agrees(TEXT[:at] + sign + TEXT[at:])

    def test_exchanged(self):
        words = {}
        for at in range(len(TEXT)):
            for sign in SIGNS:
                word = self.agrees(TEXT[:at] + sign + TEXT[at + 1:])
                words[word] = words.get(word, 0) + 1
        self.assertEqual(set(words), {
            "lab", "InvalidText", "TwiceNamed", "UnknownName", "NoContext", "NoSection", "NoSum", "NoShare"})

    def test_other_signs(self):
        """Signs that look like letters, digits or line ends to others."""
        for at in range(0, len(TEXT), 3):
            for sign in ("\t", "\r", "A", "\u0661", "\u00b2", "\u00e4", "_", ".", "\x0b", "\u2028", "\x00", "+"):
                self.agrees(TEXT[:at] + sign + TEXT[at + 1:])

    def test_cut(self):
        """A text that stops too early, or goes on."""
        for at in range(len(TEXT)):
            self.agrees(TEXT[:at])
        self.fails("", ("InvalidText", 0, 0))
        self.fails("observables a 2", ("InvalidText", 1, 0))
        self.fails("\n".join(LINES[:4]), ("InvalidText", 4, 0))
        self.fails("\n".join(LINES[:3]), ("InvalidText", 3, 0))
        self.fails(TEXT + "\n", ("InvalidText", len(LINES), 0))
        self.fails("\n" + TEXT, ("InvalidText", 0, 0))

    def test_lines_left_out(self):
        for at in range(len(LINES)):
            self.agrees("\n".join(LINES[:at] + LINES[at + 1:]))
            for to in range(len(LINES)):
                lines = LINES[:at] + LINES[at + 1:]
                self.agrees("\n".join(lines[:to] + [LINES[at]] + lines[to:]))

    def test_names(self):
        for name in ("a12345678901", "zzzzzzzzzzzz", "offer", "evens", "mix1", "n", "r", "ofof", "rest1", "nones"):
            self.assertEqual(self.changed(15, f"{name} = noisy"), "lab")
        self.changed(15, "a123456789012 = noisy", ("InvalidText", 15, 12))
        self.changed(15, "1a = noisy", ("InvalidText", 15, 0))
        self.changed(15, "A = noisy", ("InvalidText", 15, 0))
        for word in RESERVED:
            self.changed(15, f"{word} = noisy", ("InvalidText", 15, len(word) + (word in (
                "family", "weights", "game", "joint"))))
            self.changed(0, f"observables a 2, {word} 2, x 3", ("InvalidText", 0, 17 + len(word)))
            self.changed(2, f"family {word}", ("InvalidText", 2, 7 + len(word)))
            self.changed(11, f"joint {word}: 000 1", ("InvalidText", 11, 6 + len(word)))
            self.changed(3, f"a {word}: 00 1", ("InvalidText", 3, 2 + len(word)))

    def test_numbers(self):
        for number, is_right in (
                ("1", True), ("0", True), ("0/7", True), ("2/4", True), ("01", False), ("1/0", False), ("1/01", False),
                ("00", False), ("-1", False), ("1/-1", False), ("+1", False), ("1/", False), ("/1", False), ("", False),
                ("1/2/3", False), ("1.5", False), (" 1", False), (LONG, True), (LONG + "0", False),
                ("1/" + LONG, True), ("1/" + LONG + "0", False), (LONG + "/" + LONG, True), ("0/" + LONG, True)):
            word = self.changed(4, f"x b2: 00 {number}, 11 rest")
            self.assertEqual(word == "InvalidText", not is_right, number)
            self.assertEqual(self.changed(9, f"x b2 {number}: 00 21") == "InvalidText", not is_right, number)
            self.assertEqual(self.changed(14, f"noisy = mix {number} box even") == "InvalidText", not is_right, number)
            signed = {"-1": True}.get(number, is_right)
            self.assertEqual(self.changed(6, f"x b2: 00 {number}, 11 3") == "InvalidText", not signed, number)
        for number, is_right in (("-7/3", True), ("-0", False), ("-0/3", False), ("--1", False), ("-01", False),
                                 ("-" + LONG, True), ("-" + LONG + "1", False), ("-", False), ("-1/0", False)):
            self.assertEqual(self.changed(6, f"x b2: 00 {number}") == "InvalidText", not is_right, number)
        self.changed(6, "x b2: 00 -0", ("InvalidText", 6, 10))
        self.changed(6, f"x b2: 00 -{LONG}1", ("InvalidText", 6, 70))
        self.changed(4, "x b2: 00 re", ("InvalidText", 4, 11))
        self.changed(4, "x b2: 00 rest, 11 0", ("InvalidText", 4, 13))
        self.changed(6, "x b2: 00 rest", ("InvalidText", 6, 9))
        self.changed(3, "a x: none", ("InvalidText", 3, 5))

    def test_bounds(self):
        """Six observables, twenty groups of six, 64 parts and words, twenty blocks: one more is one too many."""
        names = "abcdefg"
        six = ", ".join(f"{name} 2" for name in names[:6])
        told = self.agrees(f"observables {six}\ncontexts a b c d e f")
        self.assertEqual(told, "lab")
        self.fails(f"observables {six}, g 2\ncontexts a b c d e f g",
                   ("InvalidText", 0, len("observables ") + len(six)))
        self.fails(f"observables {six}\ncontexts a b c d e f g", ("InvalidText", 1, len("contexts a b c d e f")))
        groups = "; ".join(f"{x} {y} {z}" for at, x in enumerate(names) for to, y in enumerate(names[:6]) if to > at
                           for z in names[to + 1:6])
        self.assertEqual(groups.count(";"), 19)
        self.assertEqual(self.agrees(f"observables {six}\ncontexts {groups}"), "lab")
        self.fails(f"observables {six}\ncontexts {groups}; a b", ("InvalidText", 1, 9 + len(groups)))
        words = ["".join(told) for told in product("01", repeat=6)]
        head = f"observables {six}\ncontexts a b c d e f\n"
        for kind, line in (("family", "a b c d e f: " + ", ".join(f"{word} 1/64" for word in words)),
                           ("weights", "a b c d e f: " + ", ".join(f"{word} -5" for word in words)),
                           ("game", "a b c d e f 1: " + " ".join(words))):
            self.assertEqual(self.agrees(f"{head}{kind} k\n{line}"), "lab")
            more = " 000000" if kind == "game" else ", 000000 1"
            self.fails(f"{head}{kind} k\n{line}{more}", ("InvalidText", 3, len(line)))
            if kind == "family":
                self.assertEqual(self.agrees(f"{head}{kind} k\n{line[:-4]}rest"), "lab")
                self.assertEqual(self.agrees(f"{head}joint k: {line[13:]}"), "lab")
                self.fails(f"{head}joint k: {line[13:]}{more}", ("InvalidText", 2, len(line) - 4))
        begin = len("a b c d e f ")
        for line in ("a b c d e f g 1: none", "a b c d e f -1: none", "a b c d e f a", "a b c d e f "):
            self.fails(f"{head}game k\n{line}", ("InvalidText", 3, begin))
        self.fails(f"{head}game k\na b c d e -1: none", ("InvalidText", 3, begin - 2))
        blocks = [f"n{at} = even" for at in range(20)]
        self.assertEqual(self.agrees(head + "\n".join(blocks)), "lab")
        self.fails(head + "\n".join(blocks + ["more = even"]), ("InvalidText", 22, 0))
        self.fails(head + "\n".join(blocks + ["!"]), ("InvalidText", 22, 0))
        self.changed(3, "a x: 0000000 1", ("InvalidText", 3, 11))
        self.changed(3, "a x: 4 1", ("InvalidText", 3, 5))

    def test_form_comes_first(self):
        """A line that is wrong in its form is told ahead of other errors in the lines before it."""
        text = "\n".join(["observables a 2, a 2", "contexts b", "= x"])
        self.fails(text, ("InvalidText", 2, 0))
        self.fails("\n".join(["observables a 2, a 2", "contexts b"]), ("TwiceNamed", 0, 17))


class Meaning(Reading):
    def test_names(self):
        self.changed(0, "observables a 2, x 2, x 3", ("TwiceNamed", 0, 22))
        self.changed(2, "family x", ("TwiceNamed", 2, 7))
        self.changed(5, "weights box", ("TwiceNamed", 5, 8))
        self.changed(12, "joint a: 000 1", ("TwiceNamed", 12, 6))
        self.changed(13, "coin = even", ("TwiceNamed", 13, 0))
        self.changed(1, "contexts x a; y x", ("UnknownName", 1, 14))
        self.changed(1, "contexts x a a; b2 x", ("TwiceNamed", 1, 13))
        self.changed(3, "a y: 00 1", ("UnknownName", 3, 2))
        self.changed(3, "a a: 00 1", ("TwiceNamed", 3, 2))
        self.changed(13, "tame = of box", ("UnknownName", 13, 10))
        self.changed(13, "tame = of tame", ("UnknownName", 13, 10))
        self.changed(13, "tame = coin", ("UnknownName", 13, 7))
        self.changed(13, "tame = w", ("UnknownName", 13, 7))
        self.changed(13, "tame = tame", ("UnknownName", 13, 7))
        self.changed(13, "tame = noisy", ("UnknownName", 13, 7))
        self.changed(13, "tame = turn box 10 even", ("UnknownName", 13, 12))
        self.changed(13, "tame = x", ("UnknownName", 13, 7))

    def test_scenarios(self):
        for line, contexts in (("contexts x a; x b2; a", ((0,), (0, 2), (1, 2))), ("contexts a x", ((0, 2),)),
                               ("contexts b2 x; x a; a x", ((0, 2), (0, 2), (1, 2)))):
            self.fails(f"{LINES[0]}\n{line}", ("InvalidScenario", ((2, 2, 3), contexts)))
        self.changed(1, "contexts x a; a x", ("InvalidScenario", ((2, 2, 3), ((0, 2), (0, 2)))))
        text = "observables a 4, b 4, c 4, d 2\ncontexts d c b a"
        self.fails(text, ("InvalidScenario", ((4, 4, 4, 2), ((0, 1, 2, 3),))))
        self.assertEqual(self.agrees(text[:-7].replace(", d 2", "") + "c b a"), "lab")

    def test_lines(self):
        self.changed(3, "a: 0 1", ("NoContext", 3, 0))
        self.changed(3, "b2 a: 00 1", ("NoContext", 3, 0))
        self.changed(4, "x a: 00 1", ("TwiceNamed", 4, 0))
        self.changed(3, "a x: 00 1/2, 03 1/2", ("NoSection", 3, 13))
        self.changed(3, "a x: 00 1/2, 20 1/2", ("NoSection", 3, 13))
        self.changed(3, "x a: 00 1/2, 20 1/2")
        self.changed(3, "a x: 00 1/2, 000 1/2", ("NoSection", 3, 13))
        self.changed(3, "a x: 00 1/2, 0 1/2", ("NoSection", 3, 13))
        self.changed(3, "a x: 00 1/2, 01 1/4, 00 1/4", ("TwiceNamed", 3, 21))
        self.changed(3, "a x: 00 1/2, 01 1/4", ("NoSum", 3, 8))
        self.changed(3, "a x: 00 1/2, 01 3/4, 02 rest", ("NoSum", 3, 8))
        self.assertEqual(self.changed(3, "a x: 00 1/2, 01 1/2, 02 rest"), "lab")
        self.assertEqual(self.changed(3, "a x: 00 rest"), "lab")
        self.changed(3, "a x: 00 0", ("NoSum", 3, 8))
        self.changed(11, "joint coin: 000 1/2, 111 1/4", ("NoSum", 11, 16))
        self.changed(11, "joint coin: 000 3/2, 111 rest", ("NoSum", 11, 16))
        self.changed(11, "joint coin: 00 1", ("NoSection", 11, 12))
        self.changed(11, "joint coin: 002 1/2, 012 1/4, 012 rest", ("TwiceNamed", 11, 30))
        self.changed(9, "x b2 1/2: 00 21", ("NoSum", 9, 5))
        self.changed(10, "a x 1/3: none", ("NoSum", 9, 5))
        self.changed(9, "x b2 1/3: 00 00", ("TwiceNamed", 9, 13))
        self.changed(9, "x b2 1/3: 00 12", ("NoSection", 9, 13))
        self.changed(6, "x b2: 21 0, 21 0", ("TwiceNamed", 6, 12))

    def test_terms(self):
        self.changed(13, "tame = mix 4/3 even even", ("NoShare", 13, 11))
        self.changed(13, "tame = mix 4/3 box coin", ("NoShare", 13, 11))
        self.changed(13, "tame = mix 1 coin mix 2 even even", ("UnknownName", 13, 13))
        self.changed(13, "tame = turn x 011 even", ("NoSection", 13, 14))
        self.changed(13, "tame = turn x 10 even", ("NoSection", 13, 14))
        self.changed(13, "tame = turn a 102 even", ("NoSection", 13, 14))
        self.changed(13, "tame = point 02", ("NoSection", 13, 13))
        self.changed(13, "tame = point 003", ("NoSection", 13, 13))
        # Words of outcomes may come again in a term.
        self.assertEqual(self.changed(13, "tame = turn a 10 turn b2 10 mix 1/2 point 000 point 000"), "lab")

    def test_how_many(self):
        for many, told in ((39, None), (40, None), (41, 41), (60, 60), (200, 200)):
            line = "tame = " + "turn a 10 " * (many - 1) + "even"
            self.changed(13, line, told and ("InvalidTerm", told))
        for many in (19, 20, 99):
            line = "tame = " + "mix 1/2 even " * many + "box"
            self.changed(13, line, None if 2 * many < 40 else ("InvalidTerm", 2 * many + 1))
        # With those told by name: 40, then 81, 162, then more than 200.
        head = LINES[:13] + ["t1 = " + "turn a 10 " * 39 + "even", "t2 = mix 1/2 t1 t1"]
        self.assertEqual(self.agrees("\n".join(head)), "lab")
        self.assertEqual(self.agrees("\n".join(head + ["t3 = mix 0 t2 t2"])), "lab")
        for last, told in (("t3 = mix 0 t2 mix 1 t2 t1", 212), ("t3 = mix 0 t2 mix 1 t1 t1", 169),
                           ("t3 = mix 1 t2 " + "turn a 10 " * 38 + "t2", 169 + 38),
                           ("t3 = mix 1 t2 " + "turn a 10 " * 30 + "t2", 199),
                           ("t3 = mix 1 t2 " + "turn a 10 " * 31 + "t2", 200),
                           ("t3 = mix 1 t2 " + "turn a 10 " * 32 + "t2", 201),
                           ("t3 = " + "turn a 10 " * 41 + "t2", 42)):
            word = self.agrees("\n".join(head + [last]))
            self.assertEqual(word, "InvalidTerm" if told > 200 or told == 42 else "lab", last)

    def test_families_by_name(self):
        """The name of a family counts as one term: 39, 81, then 200 and 201."""
        head = LINES[:13] + ["t1 = " + "mix 1/2 box " * 19 + "box", "t2 = mix 1/2 t1 t1"]
        self.assertEqual(self.agrees("\n".join(head + ["t3 = mix 0 t2 " + "turn a 10 " * 35 + "t2"])), "lab")
        self.fails("\n".join(head + ["t3 = mix 0 t2 " + "turn a 10 " * 36 + "t2"]), ("InvalidTerm", 201))

    def test_first_of_several(self):
        """Line by line, word by word."""
        self.changed(3, "y a: 05 1/2, 00 2", ("InvalidText", 3, 6))
        self.changed(3, "y y: 03 1/2, 00 2", ("UnknownName", 3, 0))
        self.changed(3, "a a: 03 1/2, 00 2", ("TwiceNamed", 3, 2))
        self.changed(3, "a b2: 03 1/2, 00 2", ("NoContext", 3, 0))
        self.changed(3, "a x: 00 2, 00 2, 03 1", ("TwiceNamed", 3, 11))
        self.changed(3, "a x: 03 2, 00 2, 00 1", ("NoSection", 3, 5))
        self.changed(9, "x b2 7: 00 33", ("NoSection", 9, 11))
        self.changed(13, "a = mix 2 of box point 9", ("InvalidText", 13, 23))
        self.changed(13, "a = mix 2 of box point 3", ("TwiceNamed", 13, 0))
        self.changed(13, "tame = mix 2 of box point 3", ("NoShare", 13, 11))
        self.changed(13, "tame = mix 1 of box point 3", ("UnknownName", 13, 16))
        self.changed(13, "tame = " + "turn a 10 " * 60 + "point 3", ("NoSection", 13, 7 + 600 + 6))
        lines = ["observables a 2, a 2", "contexts b a; a a"]
        self.fails("\n".join(lines), ("TwiceNamed", 0, 17))
        self.fails("\n".join(["observables a 2, c 2", lines[1]]), ("UnknownName", 1, 9))
        self.fails("\n".join(["observables a 2, b 2", lines[1]]), ("TwiceNamed", 1, 16))
        self.fails("\n".join(["observables a 2, b 2", "contexts a; a b", "a = even"]),
                   ("InvalidScenario", ((2, 2), ((0,), (0, 1)))))

    def test_drawn_changes(self):
        """Words of the text in the place of others."""
        maker = Maker(151)
        words = {}
        for _ in range(1500):
            lines = list(LINES)
            for _ in range(maker.random.choice((1, 1, 2))):
                at = maker.random.randrange(len(lines))
                told = lines[at].split(" ")
                other = maker.random.choice(LINES).split(" ")
                told[maker.random.randrange(len(told))] = maker.random.choice(other)
                lines[at] = " ".join(told)
            word = self.agrees("\n".join(lines))
            words[word] = words.get(word, 0) + 1
        self.assertGreater(len(words), 6)


def drawn_lab(maker, scenario):
    """A lab of things of all kinds."""
    many = len(scenario[0])
    names = maker.random.sample(["a", "b", "c1", "x", "yy", "zeta9", "q123456789ab"], many)
    things, known = [], {}
    for at in range(maker.random.randint(0, 9)):
        kind = maker.random.choice(("family", "joint", "weights", "game", "term", "term", "term"))
        value = {"family": lambda: maker.family(scenario, 9, 40), "joint": lambda: maker.distribution(scenario, 9, 60),
                 "weights": lambda: maker.weights(scenario), "game": lambda: maker.game(scenario),
                 "term": lambda: drawn_term(maker, scenario, known, 4)}[kind]()
        things.append((f"t{at}", kind, value))
        known[f"t{at}"] = kind
    return (tuple(names), scenario, tuple(things))


def drawn_term(maker, scenario, known, deep):
    draw = maker.random
    joints = [name for name in known if known[name] == "joint"]
    named = [name for name in known if known[name] in ("family", "term")]
    choices = ["even", "point"] + ["of"] * bool(joints) + ["name"] * bool(named) + ["mix", "turn"] * 2 * (deep > 0)
    word = draw.choice(choices)
    if word == "point":
        return ("point", draw.choice(worlds(scenario)))
    if word in ("of", "name"):
        return (word, draw.choice(joints if word == "of" else named))
    if word == "mix":
        share = maker.row(2)[0]
        return ("mix", share, drawn_term(maker, scenario, known, deep - 1),
                drawn_term(maker, scenario, known, deep - 1))
    if word == "turn":
        x = draw.randrange(len(scenario[0]))
        outcomes = tuple(draw.sample(range(scenario[0][x]), scenario[0][x]))
        return ("turn", x, outcomes, drawn_term(maker, scenario, known, deep - 1))
    return ("even",)


SCENARIOS = [
    ((2,), ((0,),)), BELL, ((2, 3), ((0,), (1,))), ((4, 2, 3), ((0, 1, 2),)), ((2, 2, 2), ((0, 1), (0, 2), (1, 2))),
    ((3, 2, 3, 2), BELL[1]), ((2,) * 6, ((0, 1, 2), (3, 4, 5))), ((4, 4, 4), ((0, 1), (1, 2)))]


class Printing(Reading):
    def test_drawn(self):
        maker = Maker(152)
        for scenario in SCENARIOS:
            for _ in range(12):
                lab = drawn_lab(maker, scenario)
                self.assertIs(is_lab(lab), True)
                text = lab_text(lab)
                self.assertEqual(text, own_text(lab))
                self.assertEqual(read_lab(text), lab)
                self.assertEqual(self.agrees(text), "lab")

    def test_orders(self):
        """Groups, names in a group, lines and parts in whatever order: the same lab."""
        maker = Maker(153)
        draw = maker.random
        for scenario in SCENARIOS:
            for _ in range(6):
                lab = drawn_lab(maker, scenario)
                lines = lab_text(lab).split("\n")
                head, groups = lines[0], lines[1][len("contexts "):].split("; ")
                turned = [" ".join(draw.sample(group.split(" "), len(group.split(" ")))) for group in groups]
                out = [head, "contexts " + "; ".join(draw.sample(turned, len(turned)))]
                at = 2
                while at < len(lines):
                    kind = lines[at].split(" ")[0]
                    out.append(lines[at])
                    if kind in ("family", "weights", "game"):
                        rows = [self.turned(draw, kind, line) for line in lines[at + 1:at + 1 + len(groups)]]
                        out += draw.sample(rows, len(rows))
                        at += len(groups)
                    elif kind == "joint":
                        first, parts = lines[at].split(": ")
                        told = parts.split(", ")
                        out[-1] = f"{first}: {', '.join(draw.sample(told, len(told)))}"
                    at += 1
                self.assertEqual(read_lab("\n".join(out)), lab)

    def turned(self, draw, kind, line):
        """A line with names and parts in another order."""
        head, tail = line.split(": ")
        names = head.split(" ")
        share = [names.pop()] if kind == "game" else []
        order = draw.sample(range(len(names)), len(names))

        def word(told):
            return "".join(told[x] for x in order)

        if tail != "none" and kind == "game":
            told = tail.split(" ")
            tail = " ".join(word(one) for one in draw.sample(told, len(told)))
        elif tail != "none":
            told = [part.split(" ") for part in tail.split(", ")]
            tail = ", ".join(f"{word(one)} {number}" for one, number in draw.sample(told, len(told)))
        return " ".join([names[x] for x in order] + share) + ": " + tail

    def test_all_orders(self):
        rows = ["observables a 2, b 2, x 3", "contexts {}", "family f", "{}: {} 1/2, {} rest"]
        for order in permutations(range(3)):
            names = [("a", "b", "x")[x] for x in order]
            one, two = ["".join("012"[told[x]] for x in order) for told in ((0, 1, 2), (1, 0, 1))]
            text = "\n".join(rows).format(" ".join(names), " ".join(names), one, two)
            lab = read_lab(text)
            self.assertEqual(lab[1], ((2, 2, 3), ((0, 1, 2),)))
            row = dict(zip(secs(lab[1], (0, 1, 2)), lab[2][0][2][0]))
            self.assertEqual({told: number for told, number in row.items() if number != NIL},
                             {(0, 1, 2): HALF, (1, 0, 1): HALF})

    def test_rest(self):
        for parts, number in (("00 1/3, 11 rest", (2, 3)), ("11 rest", ONE), ("00 1, 11 rest", NIL),
                              ("00 1/3, 01 1/3, 10 1/3, 11 rest", NIL), ("00 0, 11 rest", ONE)):
            lab = read_lab(f"observables a 2, b 2\ncontexts a b\nfamily f\na b: {parts}\njoint j: {parts}")
            self.assertEqual(lab[2][0][2][0][3], number)
            self.assertEqual(lab[2][1][2][3], number)

    def test_sixty_digits(self):
        """Numbers of 60 digits are printed and read back, those of 61 refused, the first of them told."""
        most, more = 10 ** 60 - 1, 10 ** 60
        coin = ((2,), ((0,),))

        def lab(*things):
            return (("a",), coin, tuple((f"t{at}", *thing) for at, thing in enumerate(things)))

        def row(number):
            return ((number, (number[1] - number[0], number[1])),)

        fine = lab(("family", row((1, most))), ("joint", row((most - 1, most))[0]),
                   ("weights", (((-most, 1), (most, most - 1)),)),
                   ("game", (((1, 1),), ((0, 1),))), ("term", ("mix", (1, most), ("even",), ("even",))))
        self.assertEqual(read_lab(lab_text(fine)), fine)
        self.assertEqual(lab_text(fine), own_text(fine))
        two = ((2, 2), ((0,), (1,)))
        for wrong, number in (
                (lab(("family", row((1, more)))), (1, more)), (lab(("joint", row((3, more + 1))[0])), (3, more + 1)),
                (lab(("weights", ((NIL, (more, 1)),))), (more, 1)),
                (lab(("weights", (((-more, 7), NIL),))), (-more, 7)),
                (lab(("term", ("mix", (7, more), ("even",), ("even",)))), (7, more)),
                (lab(("term", ("mix", (1, 2), ("mix", (1, more), ("even",), ("even",)),
                               ("mix", (3, more), ("even",), ("even",))))), (1, more)),
                ((("a", "b"), two, (("g", "game", (((1, more), (more - 1, more)), ((1, 0), (1, 0)))),)), (1, more)),
                (lab(("weights", (((5, 7), (1, 10 ** 399)),)), ("family", row((1, more)))), (1, 10 ** 399)),
                (lab(("term", ("even",)), ("joint", row((1, more))[0]), ("family", row((3, more + 1)))), (1, more))):
            self.assertIs(is_lab(wrong), True)
            self.refuses((errors.InvalidNumber, "given", number), lab_text, wrong)

    def test_not_in_lowest_terms(self):
        top, bottom = "5" * 60, "1" + "0" * 59
        text = f"observables a 2\ncontexts a\nweights w\na: 0 {top}/{bottom}, 1 -{bottom}/{bottom}"
        lab = read_lab(text)
        self.assertEqual(lab[2][0][2][0][1], (-1, 1))
        self.assertEqual(read_lab(lab_text(lab)), lab)
        self.assertIn("1 -1", lab_text(lab))


class Calls(Case):
    def test_all(self):
        lab = read_lab(TEXT)
        self.holds(Spec(read_lab, [("text", TEXT)], {}))
        wrong = given(errors.InvalidLab, [None, (), list(lab), lab[:2], (lab[0], lab[1], list(lab[2])), TEXT])
        more = (lab[0], lab[1], (("f", "weights", (((1, 10 ** 60),) + (NIL,) * 5, (NIL,) * 6)),))
        self.holds(Spec(lab_text, [("lab", lab)], {"lab": wrong},
                        [({"lab": more}, errors.InvalidNumber, "given", (1, 10 ** 60))]))
        for value in any_values():
            self.refuses((errors.InvalidLab, "given", value), lab_text, value)

    def test_box(self):
        rows = ["observables a 2, b 2, x 2, y 2", "contexts x a; a y; b x; y b", "family box", "a x: 00 1/2, 11 rest",
                "b y: 01 1/2, 10 1/2", "y a: 11 2/4, 00 rest", "b x: 00 1/2, 11 1/2"]
        lab = read_lab("\n".join(rows))
        self.assertEqual(lab, (("a", "b", "x", "y"), BELL, (("box", "family", BOX),)))


if __name__ == "__main__":
    unittest.main()
