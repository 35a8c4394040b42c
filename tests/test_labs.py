"""[33] to [35]: names, labs and terms, what they stand for, settled terms, the open share."""

import unittest
from fractions import Fraction

from belltables import errors
from belltables.fractions import contextual_fraction
from belltables.labs import family_in, is_lab, is_settled, is_term, joint_in, open_share
from belltables.language import read_lab
from belltables.scenarios import is_distribution, is_scenario, is_weights
from tests.harness import Case, Spec
from tests.own import (
    BELL, BOX, CHSH, COIN, FLAT, GAME, HALF, LIKE, NIL, ONE, Maker, any_values, bent, frac, is_int, own_family,
    own_is_fraction, own_is_row, own_is_section, pair, pairs, secs, worlds)
from tests.reading import RESERVED
from tests.test_arguments import given
from tests.test_language import SCENARIOS, drawn_lab

EVEN = ("even",)
COINS = tuple(HALF if world in ((0, 0, 0, 0), (1, 1, 1, 1)) else NIL for world in worlds(BELL))
NOISY = ("mix", HALF, ("name", "box"), EVEN)
TAME = ("mix", (1, 3), ("of", "coin"), ("turn", 2, (1, 0), ("point", (0, 1, 0, 0))))
THINGS = (("box", "family", BOX), ("coin", "joint", COINS), ("chsh", "weights", CHSH), ("win", "game", GAME),
          ("noisy", "term", NOISY), ("tame", "term", TAME), ("both", "term", ("mix", NIL, ("name", "noisy"), EVEN)))
NAMES = ("a", "b", "x", "y")
LAB = (NAMES, BELL, THINGS)


def own_is_name(value):
    return (type(value) is str and 1 <= len(value) <= 12 and value[0] in "abcdefghijklmnopqrstuvwxyz"
            and set(value) <= set("abcdefghijklmnopqrstuvwxyz0123456789") and value not in RESERVED)


def own_is_order(value, many):
    return type(value) is tuple and all(is_int(told) for told in value) and sorted(value) == list(range(many))


def own_term(scenario, kinds, counts, value):
    """How many terms are in it, and how many more by name; None if it is no term."""
    if type(value) is not tuple or not value or type(value[0]) is not str:
        return None
    word, *more = value
    if word == "even" and not more:
        return (1, 0)
    if word == "point" and len(more) == 1:
        return (1, 0) if own_is_section(scenario, range(len(scenario[0])), more[0]) else None
    if word == "of" and len(more) == 1:
        return (1, 0) if type(more[0]) is str and kinds.get(more[0]) == "joint" else None
    if word == "name" and len(more) == 1:
        is_right = type(more[0]) is str and kinds.get(more[0]) in ("family", "term")
        return (1, counts.get(more[0], 0)) if is_right else None
    inside = []
    if word == "mix" and len(more) == 3 and own_is_fraction(more[0]) and 0 <= frac(more[0]) <= 1:
        inside = [own_term(scenario, kinds, counts, part) for part in more[1:]]
    if word == "turn" and len(more) == 3 and is_int(more[0]) and 0 <= more[0] < len(scenario[0]):
        if own_is_order(more[1], scenario[0][more[0]]):
            inside = [own_term(scenario, kinds, counts, more[2])]
    if not inside or None in inside:
        return None
    return (1 + sum(many for many, _ in inside), sum(named for _, named in inside))


def own_is_game(scenario, value):
    if type(value) is not tuple or len(value) != 2 or not own_is_row(value[0], len(scenario[1])):
        return False
    return type(value[1]) is tuple and len(value[1]) == len(scenario[1]) and all(
        type(row) is tuple and len(row) == len(secs(scenario, context)) and all(is_int(mark) and mark in (0, 1)
                                                                                for mark in row)
        for context, row in zip(scenario[1], value[1]))


def own_is_thing(scenario, kinds, counts, value):
    """Whether it is a thing; if it is, it is told from here on."""
    if type(value) is not tuple or len(value) != 3 or not own_is_name(value[0]) or value[0] in kinds:
        return False
    name, kind, told = value
    if type(kind) is not str:
        return False
    if kind == "term":
        found = own_term(scenario, kinds, counts, told)
        if found is None or found[0] > 40 or sum(found) > 200:
            return False
        counts[name] = sum(found)
    elif kind == "family":
        if type(told) is not tuple or len(told) != len(scenario[1]) or not all(
                own_is_row(row, len(secs(scenario, context))) for row, context in zip(told, scenario[1])):
            return False
    elif kind == "game":
        if not own_is_game(scenario, told):
            return False
    elif kind not in ("joint", "weights") or not (
            is_distribution(scenario, told) if kind == "joint" else is_weights(scenario, told)):
        return False
    kinds[name] = kind
    return True


def own_is_lab(value):
    if type(value) is not tuple or len(value) != 3:
        return False
    names, scenario, things = value
    if not is_scenario(scenario) or type(names) is not tuple or len(names) != len(scenario[0]):
        return False
    if not all(own_is_name(name) for name in names) or len(set(names)) != len(names):
        return False
    kinds, counts = {name: "observable" for name in names}, {}
    return type(things) is tuple and len(things) <= 20 and all(
        own_is_thing(scenario, kinds, counts, thing) for thing in things)


def turned(scenario, context, row, x, outcomes):
    """A row of fractions with an observable's outcomes called anew."""
    if x not in context:
        return row
    table = {}
    for section, number in zip(secs(scenario, context), row):
        told = tuple(outcomes[o] if y == x else o for y, o in zip(context, section))
        table[told] = number
    return [table[section] for section in secs(scenario, context)]


def own_stands(lab, term):
    """The rows of fractions that a term stands for."""
    scenario = lab[1]
    things = {name: (kind, value) for name, kind, value in lab[2]}
    word = term[0]
    if word == "even":
        return own_family(scenario, [Fraction(1, len(worlds(scenario)))] * len(worlds(scenario)))
    if word == "point":
        return own_family(scenario, [Fraction(int(world == term[1])) for world in worlds(scenario)])
    if word in ("of", "name"):
        kind, value = things[term[1]]
        if kind == "joint":
            return own_family(scenario, [frac(number) for number in value])
        return own_stands(lab, value) if kind == "term" else [[frac(number) for number in row] for row in value]
    if word == "mix":
        share = frac(term[1])
        return [[share * a + (1 - share) * b for a, b in zip(*rows)]
                for rows in zip(own_stands(lab, term[2]), own_stands(lab, term[3]))]
    return [turned(scenario, context, row, term[1], term[2])
            for context, row in zip(scenario[1], own_stands(lab, term[3]))]


def own_joint(lab, term):
    """The joint distribution of a term; None if it is not settled."""
    scenario = lab[1]
    things = {name: (kind, value) for name, kind, value in lab[2]}
    whole = worlds(scenario)
    word = term[0]
    if word == "even":
        return [Fraction(1, len(whole))] * len(whole)
    if word == "point":
        return [Fraction(int(world == term[1])) for world in whole]
    if word in ("of", "name"):
        kind, value = things[term[1]]
        if kind == "joint":
            return [frac(number) for number in value]
        return own_joint(lab, value) if kind == "term" else None
    parts = [own_joint(lab, part) for part in (term[2:] if word == "mix" else term[3:])]
    if None in parts:
        return None
    if word == "mix":
        return [frac(term[1]) * a + (1 - frac(term[1])) * b for a, b in zip(*parts)]
    return turned(scenario, tuple(range(len(scenario[0]))), parts[0], term[1], term[2])


def own_share(lab, term):
    things = {name: (kind, value) for name, kind, value in lab[2]}
    word = term[0]
    if word == "name":
        kind, value = things[term[1]]
        return own_share(lab, value) if kind == "term" else Fraction(1)
    if word == "mix":
        share = frac(term[1])
        return share * own_share(lab, term[2]) + (1 - share) * own_share(lab, term[3])
    return own_share(lab, term[3]) if word == "turn" else Fraction(0)


def turns(many, inside=EVEN):
    """So many terms in one another."""
    for _ in range(many - 1):
        inside = ("turn", 0, (1, 0), inside)
    return inside


class Labs(Case):
    def test_right(self):
        maker = Maker(161)
        self.assertIs(is_lab(LAB), True)
        self.assertIs(is_lab((("a",), COIN, ())), True)
        self.assertIs(is_lab((NAMES, BELL, ())), True)
        for scenario in SCENARIOS:
            for _ in range(10):
                lab = drawn_lab(maker, scenario)
                self.assertIs(own_is_lab(lab), True)
                self.assertIs(is_lab(lab), True)

    def test_names(self):
        for name, is_right in (
                ("a", True), ("z9", True), ("a12345678901", True), ("a123456789012", False), ("", False), ("9a", False),
                ("A", False), ("aB", False), ("a b", False), ("a_", False), ("\u00e4", False), ("a\u0661", False),
                ("offs", True), ("rests", True), ("name", True), ("term", True), ("mixed", True), (b"a", False),
                (None, False), (0, False), (("a",), False), ("a\n", False)):
            self.assertIs(is_lab(((name,), COIN, ())), is_right, name)
            self.assertIs(is_lab((("b",), COIN, ((name, "term", EVEN),))), is_right, name)
        for word in RESERVED:
            self.assertIs(is_lab(((word,), COIN, ())), False, word)
            self.assertIs(is_lab((("b",), COIN, ((word, "term", EVEN),))), False, word)

    def test_unlike_names(self):
        self.assertIs(is_lab((("a", "b", "a", "y"), BELL, ())), False)
        self.assertIs(is_lab((NAMES, BELL, THINGS + (("box", "term", EVEN),))), False)
        self.assertIs(is_lab((NAMES, BELL, THINGS + (("x", "term", EVEN),))), False)
        self.assertIs(is_lab((NAMES, BELL, THINGS + (("chsh", "family", BOX),))), False)

    def test_how_many_things(self):
        things = tuple((f"t{at}", "term", EVEN) for at in range(21))
        self.assertIs(is_lab((NAMES, BELL, things[:20])), True)
        self.assertIs(is_lab((NAMES, BELL, things)), False)

    def test_later_ones(self):
        """A term tells what comes ahead of it, nothing else."""
        for term, needed in ((NOISY, 1), (TAME, 2), (("of", "coin"), 2), (("name", "both"), 7), (("name", "noisy"), 5)):
            for at in range(8):
                things = THINGS[:at] + (("late", "term", term),)
                self.assertIs(is_lab((NAMES, BELL, things)), at >= needed, (at, term))
        for term in (("name", "late"), ("of", "box"), ("name", "coin"), ("name", "chsh"), ("name", "win"),
                     ("of", "tame"), ("of", "win"), ("of", "chsh"), ("name", "a"), ("of", "a")):
            self.assertIs(is_lab((NAMES, BELL, THINGS + (("late", "term", term),))), False, term)
            self.assertIs(is_term(LAB, term), False, term)

    def test_bent(self):
        told = {True: 0, False: 0}
        small = (("a", "b"), ((2, 2), ((0, 1),)), (
            ("f", "family", (LIKE,)), ("j", "joint", LIKE), ("w", "weights", (LIKE,)),
            ("g", "game", ((ONE,), ((1, 0, 0, 1),))),
            ("t", "term", ("mix", (1, 3), ("of", "j"), ("turn", 1, (1, 0), ("name", "f")))),
            ("u", "term", ("mix", ONE, ("name", "t"), ("point", (0, 1))))))
        self.assertIs(is_lab(small), True)
        for value in bent(small):
            is_right = own_is_lab(value)
            told[is_right] += 1
            self.assertIs(is_lab(value), is_right, value)
        self.assertGreater(told[False], 1000)
        self.assertGreater(told[True], 20)

    def test_any_value(self):
        for value in any_values():
            for wrong in (value, (value, BELL, ()), (NAMES, value, ()), (NAMES, BELL, value), (NAMES, BELL, (value,)),
                          ((value,), COIN, ()), (("a",), COIN, ((value, "term", EVEN),)),
                          (("a",), COIN, (("t", value, EVEN),)), (("a",), COIN, (("t", "term", value),)),
                          (("a",), COIN, (("t", "family", value),)), (("a",), COIN, (("t", "joint", value),)),
                          (("a",), COIN, (("t", "weights", value),)), (("a",), COIN, (("t", "game", value),)),
                          (("a",), COIN, (("t", "term", (value,)),)), (("a",), COIN, (("t", "term", ("of", value)),)),
                          (("a",), COIN, (("t", "term", ("name", value)),))):
                self.assertIs(is_lab(wrong), own_is_lab(wrong), wrong)


class Terms(Case):
    def test_right(self):
        for term in (EVEN, ("point", (1, 0, 1, 1)), ("of", "coin"), ("name", "box"), ("name", "both"), NOISY, TAME,
                     ("mix", NIL, EVEN, EVEN), ("mix", ONE, EVEN, EVEN), ("turn", 3, (0, 1), EVEN)):
            self.assertIs(is_term(LAB, term), True, term)

    def test_wrong(self):
        for term in (("even", 0), ("Even",), "even", ["even"], (EVEN,), (), ("point",), ("point", (0, 0, 0)),
                     ("point", (0, 0, 0, 2)), ("point", (0, 0, 0, True)), ("point", [0, 0, 0, 0]), ("of",),
                     ("of", "coin", "coin"), ("name", "nobody"), ("mix", (3, 2), EVEN, EVEN),
                     ("mix", (-1, 2), EVEN, EVEN),
                     ("mix", 1, EVEN, EVEN), ("mix", (2, 4), EVEN, EVEN), ("mix", HALF, EVEN),
                     ("mix", HALF, EVEN, EVEN, EVEN),
                     ("turn", 4, (0, 1), EVEN), ("turn", -1, (0, 1), EVEN), ("turn", True, (0, 1), EVEN),
                     ("turn", 0, (0, 0), EVEN), ("turn", 0, (0, 1, 2), EVEN), ("turn", 0, (0,), EVEN),
                     ("turn", 0, (False, 1), EVEN), ("turn", 0, [0, 1], EVEN), ("turn", 0, (0, 1)),
                     ("turn", 0, (0, 1), "even"),
                     ("turn", "a", (0, 1), EVEN), ("mix", HALF, ("of", "box"), EVEN), ("rest",), ("none",)):
            self.assertIs(is_term(LAB, term), False, term)

    def test_how_many(self):
        """40 terms within, 200 with those told by name."""
        for many in (1, 39, 40, 41, 60):
            self.assertIs(is_term(LAB, turns(many)), many <= 40)
            self.assertIs(is_lab((NAMES, BELL, (("t", "term", turns(many)),))), many <= 40)
        wide = EVEN
        for many in range(3, 60, 2):
            wide = ("mix", HALF, wide, EVEN)
            self.assertIs(is_term(LAB, wide), many <= 40)
        # t1 has 40, t2 1 + 2 * 41 with those told by name.
        lab = (NAMES, BELL, (("t1", "term", turns(40)), ("t2", "term", ("mix", HALF, ("name", "t1"), ("name", "t1")))))
        self.assertIs(is_lab(lab), True)
        for more in range(28, 36):
            term = ("mix", HALF, ("name", "t2"), turns(more, ("name", "t2")))
            counted = 1 + 84 + (more - 1) + 84
            self.assertEqual(own_term(BELL, {"t2": "term"}, {"t2": 83}, term), (more + 2, 166))
            self.assertIs(is_term(lab, term), counted <= 200, more)
            self.assertIs(is_lab((NAMES, BELL, lab[2] + (("t3", "term", term),))), counted <= 200)
        self.assertIs(is_term(lab, ("mix", HALF, ("name", "t2"), turns(32, ("name", "t2")))), True)
        self.assertIs(is_term(lab, ("mix", HALF, ("name", "t2"), turns(33, ("name", "t2")))), False)

    def test_families_by_name(self):
        """The name of a family counts as one term."""
        many = ("name", "box")
        for _ in range(19):
            many = ("mix", HALF, ("name", "box"), many)
        things = THINGS[:1] + (("t1", "term", many), ("t2", "term", ("mix", HALF, ("name", "t1"), ("name", "t1"))))
        for more in (35, 36, 37):
            term = ("mix", HALF, ("name", "t2"), turns(more, ("name", "t2")))
            self.assertIs(is_term((NAMES, BELL, things), term), more <= 36)
            self.assertIs(is_lab((NAMES, BELL, things + (("t3", "term", term),))), more <= 36)

    def test_one_term_in_many_places(self):
        term = EVEN
        for _ in range(18):
            term = ("mix", HALF, term, term)
        self.assertIs(is_term(LAB, term), False)

    def test_bent(self):
        told = {True: 0, False: 0}
        kinds = {**{name: "observable" for name in NAMES}, **{name: kind for name, kind, _ in THINGS}}
        counts = {"noisy": 3, "tame": 4, "both": 6}
        for term in (NOISY, TAME, ("mix", (2, 3), ("name", "both"), ("turn", 0, (1, 0), EVEN))):
            for value in bent(term):
                found = own_term(BELL, kinds, counts, value)
                told[found is not None] += 1
                self.assertIs(is_term(LAB, value), found is not None, value)
        self.assertGreater(min(told.values()), 5)

    def test_any_value(self):
        for value in any_values():
            self.assertIs(is_term(LAB, value), False)
            for wrong in (("mix", HALF, value, EVEN), ("mix", value, EVEN, EVEN), ("turn", 0, (1, 0), value),
                          ("turn", value, (1, 0), EVEN), ("turn", 0, value, EVEN), ("point", value),
                          (value, HALF, EVEN, EVEN)):
                found = own_term(BELL, {}, {}, wrong)
                self.assertIs(is_term(LAB, wrong), found is not None, wrong)


class Standing(Case):
    def judge(self, lab):
        """All things of a lab beside sums of the test's own; how many are settled, and how many are not."""
        settled = open_ones = 0
        for name, kind, value in lab[2]:
            if kind == "family":
                self.assertEqual(family_in(lab, name), value)
                self.assertIs(is_settled(lab, name), False)
                self.assertEqual(open_share(lab, name), ONE)
                self.refuses((errors.InvalidName, "given", name), joint_in, lab, name)
            elif kind == "joint":
                self.assertEqual(joint_in(lab, name), value)
            elif kind == "term":
                family = family_in(lab, name)
                self.assertEqual(family, pairs(own_stands(lab, value)))
                share = own_share(lab, value)
                self.assertEqual(open_share(lab, name), pair(share))
                joint = own_joint(lab, value)
                self.assertIs(is_settled(lab, name), joint is not None)
                if joint is None:
                    open_ones += 1
                    self.refuses((errors.NotSettled, "given", name), joint_in, lab, name)
                else:
                    settled += 1
                    self.assertEqual(share, 0)
                    told = joint_in(lab, name)
                    self.assertEqual(told, pairs([joint])[0])
                    self.assertEqual(pairs(own_family(lab[1], [frac(number) for number in told])), family)
                if len(worlds(lab[1])) <= 16:
                    self.assertLessEqual(frac(contextual_fraction(lab[1], family)), share)
            if kind not in ("family", "term"):
                for function in (family_in, is_settled, open_share):
                    self.refuses((errors.InvalidName, "given", name), function, lab, name)
            if kind in ("weights", "game"):
                self.refuses((errors.InvalidName, "given", name), joint_in, lab, name)
        return settled, open_ones

    def test_drawn(self):
        maker = Maker(162)
        settled = open_ones = 0
        for scenario in SCENARIOS:
            for _ in range(40):
                one, two = self.judge(drawn_lab(maker, scenario))
                settled, open_ones = settled + one, open_ones + two
        self.assertGreater(min(settled, open_ones), 40)

    def test_by_hand(self):
        self.judge(LAB)
        self.assertEqual(family_in(LAB, "both"), FLAT)
        self.assertEqual(open_share(LAB, "both"), NIL)
        # All of it is even, and yet it tells a family by name.
        self.assertIs(is_settled(LAB, "both"), False)
        self.refuses((errors.NotSettled, "given", "both"), joint_in, LAB, "both")
        self.assertEqual(open_share(LAB, "noisy"), HALF)
        self.assertEqual(contextual_fraction(BELL, family_in(LAB, "noisy")), NIL)

    def test_box_turned(self):
        """As contextual as the open share lets it be."""
        lab = (NAMES, BELL, THINGS[:1] + (("t", "term", ("turn", 3, (1, 0), ("mix", (3, 4), ("name", "box"),
                                                                            ("turn", 1, (1, 0), ("name", "box"))))),))
        self.assertEqual(open_share(lab, "t"), ONE)
        self.judge(lab)
        lab = (NAMES, BELL, THINGS[:1] + (("t", "term", ("mix", (3, 4), ("name", "box"), EVEN)),))
        self.assertEqual(contextual_fraction(BELL, family_in(lab, "t")), HALF)
        self.assertEqual(open_share(lab, "t"), (3, 4))

    def test_long_terms(self):
        """As many terms in one another as are let, read from a text."""
        lines = ["observables a 2, b 3", "contexts a b", "t1 = " + "turn b 120 " * 39 + "point 12"]
        lines += ["t2 = mix 1/3 t1 turn a 10 t1", "t3 = mix 1/7 t2 " + "turn b 102 " * 29 + "t2"]
        lab = read_lab("\n".join(lines))
        self.assertIs(is_lab(lab), True)
        self.assertEqual(self.judge(lab), (3, 0))
        deepest = "t1 = " + "mix 1/3 even " * 19 + "even"
        self.assertEqual(self.judge(read_lab("\n".join(lines[:2] + [deepest]))), (1, 0))

    def test_great_numbers(self):
        share = (1, 10 ** 60 - 1)
        lab = (("a",), COIN, (("f", "family", ((share, (share[1] - 1, share[1])),)),
                              ("t", "term", ("mix", share, ("name", "f"), ("point", (1,)))),
                              ("u", "term", ("mix", share, ("name", "t"), ("turn", 0, (1, 0), ("name", "t"))))))
        self.assertIs(is_lab(lab), True)
        self.judge(lab)


class Calls(Case):
    def test_all(self):
        wrong = given(errors.InvalidLab, [
            None, (), list(LAB), LAB[:2], (NAMES, BELL, list(THINGS)), (NAMES[:3], BELL, THINGS),
            (NAMES, BELL, THINGS[1:]),
            "lab", 0, {}, (NAMES, BELL, THINGS + THINGS[:1])])
        for function in (is_lab,):
            for value in (LAB, list(LAB), None, {}, [[]]):
                self.holds(Spec(function, [("value", value)], {}))
        for value in (NOISY, list(NOISY), None, {}, [[]]):
            self.holds(Spec(is_term, [("lab", LAB), ("value", value)], {"lab": wrong}))
        others = ["nobody", "", None, 0, ("box",), ["box"], b"box", True, "a", "even", "BOX", {}]
        names = given(errors.InvalidName, others + ["coin", "chsh", "win"])
        for function in (family_in, is_settled, open_share):
            for name in ("box", "noisy", "tame", "both"):
                self.holds(Spec(function, [("lab", LAB), ("name", name)], {"lab": wrong, "name": names}))
        names = given(errors.InvalidName, others + ["box", "chsh", "win"])
        for name in ("coin", "tame"):
            self.holds(Spec(joint_in, [("lab", LAB), ("name", name)], {"lab": wrong, "name": names},
                            [({"name": "noisy"}, errors.NotSettled, "given", "noisy"),
                             ({"name": "both"}, errors.NotSettled, "given", "both")]))

    def test_any_value(self):
        for value in any_values():
            for function in (family_in, is_settled, open_share, joint_in):
                self.refuses((errors.InvalidName, "given", value), function, LAB, value)
                self.refuses((errors.InvalidLab, "given", value), function, value, "box")


if __name__ == "__main__":
    unittest.main()
