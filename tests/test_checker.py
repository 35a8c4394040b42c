"""[44]: claims and papers, beside the tests' own judge: right ones, wrong by one thing alone, of any kind."""

import unittest
from fractions import Fraction
from itertools import combinations, product

from belltables.acyclic import family_against, joint_along, obstruction, reduction
from belltables.checker import accepts
from belltables.games import no_signalling_value
from belltables.joint import joint_or_inequality
from belltables.labs import joint_in
from belltables.language import lab_text, read_lab
from belltables.markings import bases_of, marking, odd_bases
from belltables.memory import constant_plan
from belltables.parity import solved_or_odd
from belltables.paulis import pauli_family, valued_or_odd
from belltables.possible import family_with, support_of
from belltables.relabellings import led_inequality
from belltables.wirings import wired
from tests.harness import Case
from tests.judging import JUDGES, lines, own_accepts, own_margins, own_plan_chance, own_tail
from tests.own import (
    BELL, BOX, CHSH, COIN, FLAT, GAME, HALF, LIKE, NIL, ONE, PATH, QUARTER, SMALL, THIRD, TRIANGLE, UNLIKE, WON, Maker,
    any_values, bent, flat_of, frac, mix, own_family, own_inner, own_is_fraction, own_led, own_relabellings, own_sums,
    own_value, pair, pairs, ring, secs, worlds)
from tests.test_inequalities import positive
from tests.test_labs import EVEN, LAB
from tests.test_logs import LOG, drawn_log
from tests.test_markings import AXES, CABELLO, pool
from tests.test_memory import SEVEN, drawn_plan, in_one
from tests.test_parity import SIGNS, parity_support
from tests.test_paulis import GHZ, LINES, POINTS, SIDES, SQUARE, STAR, TESTS
from tests.test_possible import BARRED, PARADOX, SAME, drawn_support
from tests.test_wirings import CHASE, drawn_wirings

PAIR = ((2, 2), ((0, 1),))
WHOLE = ((4, 4, 4), ((0, 1, 2),))
EDGE = mix(BOX, FLAT, Fraction(1, 2))
THREE = mix(BOX, FLAT, Fraction(3, 4))
SIGNALLING = ((ONE, NIL, NIL, NIL),) * 3 + ((NIL, NIL, NIL, ONE),)
COVERING = ((NIL, ONE, ONE, NIL),) * 3 + ((ONE, NIL, NIL, ONE),)
UNEVEN = ((ONE, NIL, NIL, NIL), (NIL, NIL, HALF, HALF))
BOUND = no_signalling_value(BELL, GAME)[2]
TURN = ((2, 3, 0, 1), ((1, 0),) * 4)
SMALL_LAB = (("a", "b"), PAIR, (
    ("f", "family", (LIKE,)), ("j", "joint", UNLIKE), ("g", "game", ((ONE,), ((1, 0, 0, 1),))),
    ("t", "term", ("mix", THIRD, ("of", "j"), ("point", (0, 1)))), ("u", "term", ("mix", NIL, ("name", "f"), EVEN))))
TWO = ((1, "X"), (1, "Z"))
ALONE = ((0,), (1,))
VECTORS = ((1, 0), (0, 1), (1, 1), (1, -1))
BELL_LOG = ((0, (0, 0)), (0, (1, 1)), (3, (1, 0)))
AS_LOGGED = (LIKE, FLAT[0], LIKE, (NIL, NIL, ONE, NIL))
LIGHT_GAME = ((THIRD, (2, 3)), ((1, 0, 0, 1), (0, 1, 1, 0)))
NEAR = pair(Fraction(3, 4) + Fraction(1, 10 ** 30))
BELOW = pair(Fraction(3, 4) - Fraction(1, 10 ** 30))


def meeting(scenario, inequality):
    """Global assignments that meet an inequality, none in the flat of those ahead."""
    found = []
    for world, number in zip(worlds(scenario), own_sums(scenario, inequality[0])):
        if number == frac(inequality[1]) and flat_of(scenario, found + [world]) == len(found):
            found.append(world)
    return tuple(found)


def right_ones():
    """Claims that are so, with a right paper each."""
    square, star = valued_or_odd(SQUARE, LINES)[1], valued_or_odd(STAR, POINTS)[1]
    facet, positivity = (WON, (3, 1)), positive(BELL, 2, 1)
    box_rows = own_family(PATH, [Fraction(1, 8)] * 8)
    coin_lab = (("a",), COIN, ())
    return [
        (("noncontextual", BELL, EDGE), joint_or_inequality(BELL, EDGE)[1]),
        (("noncontextual", PAIR, (LIKE,)), LIKE),
        (("noncontextual", PATH, pairs(box_rows)), ((1, 8),) * 8),
        (("contextual", BELL, BOX), WON), (("contextual", BELL, BOX), CHSH),
        (("contextual", PATH, UNEVEN), joint_or_inequality(PATH, UNEVEN)[1]), (("contextual", BELL, THREE), CHSH),
        (("contextual", BELL, SIGNALLING), joint_or_inequality(BELL, SIGNALLING)[1]),
        (("fraction", BELL, BOX, ONE), ((NIL,) * 16, COVERING)),
        (("fraction", PAIR, (LIKE,), NIL), (LIKE, ((ONE,) * 4,))),
        (("fraction", COIN, ((THIRD, (2, 3)),), NIL), ((THIRD, (2, 3)), ((ONE, ONE),))),
        (("acyclic", PATH), ((0, 1),)), (("acyclic", PATH), ((1, 0),)), (("acyclic", COIN), ()),
        (("acyclic", ((2, 2), ((0,), (1,)))), ((0, 1),)), (("cyclic", BELL), ("cycle", (0, 2, 1, 3))),
        (("cyclic", TRIANGLE), ("simplex", (0, 1, 2))),
        (("joined", PATH, (LIKE, LIKE), ((0, 1),), (HALF,) + (NIL,) * 6 + (HALF,)), ()),
        (("joined", PAIR, (LIKE,), (), LIKE), ()),
        (("wins", BELL, GAME, (3, 4)), (0, 0, 0, 0)), (("wins", BELL, GAME, BELOW), (0, 0, 0, 1)),
        (("wins", BELL, GAME, (-5, 2)), (0, 0, 1, 0)), (("wins less", BELL, GAME, NEAR), ()),
        (("wins less", BELL, GAME, (7, 2)), ()), (("reaches", BELL, GAME, ONE), BOX),
        (("reaches", BELL, GAME, HALF), FLAT), (("reaches less", BELL, GAME, pair(1 + Fraction(1, 10 ** 30))), BOUND),
        (("reaches less", COIN, ((ONE,), ((0, 0),)), (1, 100)), ((NIL,), ())),
        (("wins", PATH, LIGHT_GAME, ONE), (0, 0, 1)), (("reaches", PATH, LIGHT_GAME, THIRD), (LIKE, LIKE)),
        (("valid", BELL, facet), ()), (("valid", BELL, (CHSH, (7, 2))), ()), (("broken", BELL, (CHSH, ONE)), (0, 0, 0,
                                                                                                              0)),
        (("broken", COIN, (((NIL, ONE),), HALF)), (1,)), (("valid", COIN, (((NIL, ONE),), ONE)), ()),
        (("facet", BELL, facet), meeting(BELL, facet)), (("facet", BELL, positivity), meeting(BELL, positivity)),
        (("facet", COIN, (((NIL, ONE),), ONE)), ((1,),)), (("no facet", BELL, (WON, (7, 2))), ()),
        (("no facet", COIN, (((ONE, ONE),), ONE)), ()),
        (("no facet", BELL, (CHSH[:3] + (((-2, 1), ONE, ONE, (-1, 1)),), (2, 1))), ()),
        (("equivalent", BELL, facet, led_inequality(BELL, TURN, facet)), TURN),
        (("equivalent", BELL, facet, (CHSH, (2, 1))), (TURN[0], ((0, 1),) * 4)),
        (("equivalent", WHOLE, (((ONE,) + (NIL,) * 63,), ONE), (((ONE,) + (NIL,) * 63,), ONE)),
         ((0, 1, 2), ((0, 1, 2, 3),) * 3)),
        (("equivalent", PAIR, (((ONE, NIL, NIL, NIL),), ONE), (((NIL, ONE, NIL, NIL),), ONE)), ((0, 1), ((0, 1), (1,
                                                                                                                  0)))),
        (("not equivalent", BELL, facet, positivity), ()), (("not equivalent", BELL, facet, (WON, (4, 1))), ()),
        (("not equivalent", PAIR, (((ONE, NIL, NIL, NIL),), ONE), (((ONE, NIL, NIL, ONE),), ONE)), ()),
        (("wired", BELL, COIN, (CHASE,), BOX, ((ONE, NIL),)), ()),
        (("wired", PAIR, COIN, (("measure", 1, (("tell", 1), ("tell", 0))),), (((QUARTER, HALF, QUARTER, NIL),)),
          ((HALF, HALF),)), ()),
        (("strongly contextual", BELL, SIGNS), ()), (("possible", BELL, PARADOX), (0, 1, 1, 0)),
        (("possible", PAIR, (SAME,)), (1, 1)), (("extends", BELL, PARADOX, 0, (0, 1)), (0, 1, 1, 0)),
        (("extends", PAIR, (SAME,), 0, (1, 1)), (1, 1)), (("does not extend", BELL, PARADOX, 0, (0, 0)), ()),
        (("does not extend", BELL, SIGNS, 3, (1, 0)), ()), (("family with", BELL, SIGNS), BOX),
        (("family with", PAIR, (SAME,)), ((THIRD, NIL, NIL, (2, 3)),)),
        (("no family with", BELL, BARRED), family_with(BELL, BARRED)[1]),
        (("no family with", PATH, (((0, 0),), ((1, 1),))), ((NIL, (-1, 1)),)),
        (("no family with", PATH, (((0, 0),), ((1, 1),))), ((ONE, NIL),)),
        (("parities solved", BELL, (SAME,) * 4), (0, 0, 0, 0)), (("parities solved", BELL, PARADOX), (1, 0, 1, 1)),
        (("parities solved", PAIR, (SAME,)), (1, 1)), (("all versus nothing", BELL, SIGNS), solved_or_odd(BELL,
                                                                                                          SIGNS)[1]),
        (("marking", AXES), marking(AXES)[1]), (("marking", VECTORS), (1, 0, 0, 1)),
        (("Kochen-Specker", CABELLO), bases_of(CABELLO)), (("Kochen-Specker", CABELLO), marking(CABELLO)[1]),
        (("stabilizer table", GHZ, SIDES, TESTS, pauli_family(GHZ, SIDES, TESTS)), ()),
        (("stabilizer table", ((-1, "Z"),), TWO, ALONE, ((HALF, HALF), (NIL, ONE))), ()),
        (("valued", SIDES, TESTS), (0,) * 6), (("valued", TWO, ALONE), (1, 0)),
        (("odd whatever the state", SQUARE, LINES), square), (("odd whatever the state", STAR, POINTS), star),
        (("reads", lab_text(SMALL_LAB), SMALL_LAB), ()), (("reads", "observables a 2\ncontexts a", coin_lab), ()),
        (("settled", SMALL_LAB, "t", (NIL, (5, 6), (1, 6), NIL)), ()), (("settled", LAB, "tame", joint_in(LAB,
                                                                                                          "tame")), ()),
        (("most likely", BELL, BELL_LOG, AS_LOGGED), ()), (("most likely", BELL, (), BOX), ()),
        (("most likely", PAIR, ((0, (0, 1)),), ((NIL, ONE, NIL, NIL),)), ()),
        (("not most likely", BELL, BELL_LOG, BOX), AS_LOGGED), (("not most likely", PAIR, ((0, (0, 1)),), (LIKE,)),
                                                                (UNLIKE,)),
        (("never more", BELL, GAME, 2, 1, (15, 16)), ()), (("never more", BELL, GAME, 0, 0, ONE), ()),
        (("never more", BELL, GAME, 3, 4, NIL), ()), (("never more", PATH, LIGHT_GAME, 2, 1, ONE), ()),
        (("at times more", BELL, GAME, 2, 1, pair(Fraction(15, 16) - Fraction(1, 10 ** 30))), (0, 0, 0, 0)),
        (("at times more", BELL, GAME, 0, 0, HALF), (0, 0, 1, 0)), (("at times more", PATH, LIGHT_GAME, 3, 3, HALF),
                                                                    (0, 0, 1)),
        (("plan", BELL, GAME, constant_plan(BELL, 2, (0, 0, 0, 0)), 1, (15, 16)), ()), (("plan", BELL, GAME, (), 0,
                                                                                         ONE), ()),
        (("plan", PATH, LIGHT_GAME, ((0, 0, 0), (((0, 0, 0), ((), ())), ((0, 1, 1), ((), ())))), 2, (1, 9)), ()),
    ]


EXCLUDED = {
    "noncontextual": "contextual", "acyclic": "cyclic", "wins": "wins less", "reaches": "reaches less",
    "valid": "broken", "facet": "no facet", "equivalent": "not equivalent", "strongly contextual": "possible",
    "extends": "does not extend", "family with": "no family with", "parities solved": "all versus nothing",
    "marking": "Kochen-Specker", "valued": "odd whatever the state", "most likely": "not most likely",
    "never more": "at times more"}
OTHERS = {**EXCLUDED, **{other: word for word, other in EXCLUDED.items()}}


def like_ones():
    """Claims like the right ones that are not so, or are none; each with what may be passed as a paper."""
    facet = (WON, (3, 1))
    return [
        ("noncontextual", BELL, BOX), ("noncontextual", BELL, SIGNALLING), ("contextual", BELL, EDGE),
        ("contextual", PAIR, (LIKE,)), ("fraction", BELL, BOX, NIL), ("fraction", BELL, BOX, BELOW),
        ("fraction", PAIR, (LIKE,), ONE), ("fraction", PAIR, (LIKE,), (-1, 1)), ("fraction", BELL, THREE, NIL),
        ("acyclic", BELL), ("cyclic", PATH), ("cyclic", COIN), ("joined", PATH, (LIKE, UNLIKE), ((0, 1),), (HALF,) * 2),
        ("joined", PATH, (LIKE, LIKE), ((0, 1),), ((1, 8),) * 8), ("joined", PATH, UNEVEN, ((0, 1),), ((1, 8),) * 8),
        ("joined", BELL, BOX, (), ((1, 16),) * 16), ("wins", BELL, GAME, NEAR), ("wins less", BELL, GAME, (3, 4)),
        ("wins less", BELL, GAME, BELOW), ("reaches", BELL, GAME, pair(1 + Fraction(1, 10 ** 30))),
        ("reaches less", BELL, GAME, ONE), ("reaches less", BELL, GAME, (3, 4)), ("valid", BELL, (WON, (2, 1))),
        ("broken", BELL, facet), ("facet", BELL, (WON, (4, 1))), ("facet", BELL, (WON, (2, 1))),
        ("no facet", BELL, facet), ("no facet", BELL, (WON, (2, 1))), ("equivalent", BELL, facet, (WON, (4, 1))),
        ("equivalent", BELL, facet, (CHSH, (3, 1))), ("not equivalent", BELL, facet, (CHSH, (2, 1))),
        ("not equivalent", WHOLE, (((ONE,) + (NIL,) * 63,), ONE), (((NIL,) * 64,), ONE)),
        ("wired", BELL, COIN, (CHASE,), BOX, ((NIL, ONE),)), ("wired", BELL, COIN, (CHASE,), SIGNALLING, ((ONE, NIL),)),
        ("wired", BELL, COIN, (CHASE, CHASE), BOX, ((ONE, NIL),)), ("strongly contextual", BELL, PARADOX),
        ("possible", BELL, SIGNS), ("extends", BELL, PARADOX, 0, (0, 0)), ("extends", BELL, SIGNS, 3, (0, 0)),
        ("does not extend", BELL, PARADOX, 0, (0, 1)), ("does not extend", BELL, SIGNS, 3, (0, 0)),
        ("does not extend", BELL, SIGNS, 4, (0, 0)), ("family with", BELL, BARRED), ("no family with", BELL, SIGNS),
        ("no family with", BELL, PARADOX), ("parities solved", BELL, SIGNS), ("all versus nothing", BELL, PARADOX),
        ("parities solved", ((3, 2), ((0, 1),)), (SAME,)), ("all versus nothing", ((3, 2), ((0, 1),)), (SAME,)),
        ("marking", CABELLO), ("Kochen-Specker", AXES), ("Kochen-Specker", CABELLO[:17]), ("marking", AXES + AXES[:1]),
        ("stabilizer table", GHZ, SIDES, TESTS, (FLAT[0] * 2,) * 4), ("stabilizer table", GHZ[:2], SIDES, TESTS, BOX),
        ("stabilizer table", ((1, "Z"),), TWO, ALONE, ((HALF, HALF), (NIL, ONE))), ("valued", SQUARE, LINES),
        ("odd whatever the state", SIDES, TESTS), ("reads", lab_text(SMALL_LAB), LAB), ("reads", "", SMALL_LAB),
        ("reads", SMALL_LAB, SMALL_LAB), ("settled", SMALL_LAB, "j", UNLIKE), ("settled", SMALL_LAB, "u", FLAT[0]),
        ("settled", SMALL_LAB, "f", LIKE), ("settled", SMALL_LAB, "t", UNLIKE), ("settled", SMALL_LAB, "a", UNLIKE),
        ("most likely", BELL, BELL_LOG, BOX), ("not most likely", BELL, BELL_LOG, AS_LOGGED),
        ("not most likely", BELL, (), BOX), ("most likely", BELL, BELL_LOG * 200, AS_LOGGED),
        ("never more", BELL, GAME, 2, 1, pair(Fraction(15, 16) - Fraction(1, 10 ** 30))),
        ("at times more", BELL, GAME, 2, 1, (15, 16)), ("at times more", BELL, GAME, 0, 0, ONE),
        ("never more", BELL, GAME, 101, 0, ONE), ("never more", BELL, GAME, 3, 101, ONE),
        ("never more", BELL, GAME, 3, 1, (2, 1)), ("never more", BELL, GAME, 3, -1, ONE),
        ("at times more", BELL, GAME, 3, 1, (-1, 2)), ("at times more", BELL, GAME, 3, -1, HALF),
        ("plan", BELL, GAME, constant_plan(BELL, 2, (0, 0, 0, 0)), 1, (14, 16)),
        ("plan", BELL, GAME, constant_plan(BELL, 2, (0, 0, 0, 0)), 1, (7, 8)), ("plan", BELL, GAME, (), 0, NIL),
        ("plan", BELL, GAME, (), -1, ONE), ("plan", BELL, GAME, (), 101, NIL),
        ("told", BELL), ("Noncontextual", PAIR, (LIKE,)), ("", BELL), ("noncontextual ", PAIR, (LIKE,)), (), ("valid",)]


class Pairs(Case):
    def agrees(self, claim, paper):
        """The same as the tests' own judge tells."""
        told = own_accepts(claim, paper)
        self.assertIs(accepts(claim, paper), told, (claim, paper))
        return told

    def some(self, maker, values, most):
        return values if len(values) <= most else maker.random.sample(values, most)


class Claims(Pairs):
    def test_right(self):
        words = set()
        for claim, paper in right_ones():
            self.assertIs(own_accepts(claim, paper), True, (claim, paper))
            self.assertIs(accepts(claim, paper), True, (claim, paper))
            self.assertIs(accepts(paper=paper, claim=claim), True)
            words.add(claim[0])
        self.assertEqual(words, set(JUDGES))

    def test_all_papers(self):
        """Each paper beside each claim, whether it is so or not; nothing beside all of them."""
        papers = [paper for _, paper in right_ones()] + [None, False, [], ((),)]
        told = {True: 0, False: 0}
        for claim in [claim for claim, _ in right_ones()] + like_ones():
            for paper in papers:
                told[self.agrees(claim, paper)] += 1
        self.assertGreater(told[True], 120)

    def test_not_so(self):
        """A claim that is not so has no paper."""
        papers = [paper for _, paper in right_ones()]
        for claim in like_ones():
            for paper in papers:
                self.assertIs(accepts(claim, paper), False, (claim, paper))

    def test_other_words(self):
        """The parts of a claim behind the words of others; of two that exclude one another one is so at most."""
        for claim, paper in right_ones():
            for word in JUDGES:
                other = (word,) + claim[1:]
                is_taken = self.agrees(other, paper)
                self.agrees(other, ())
                if OTHERS.get(word) == claim[0]:
                    self.assertIs(is_taken, False)

    def test_more_and_fewer_parts(self):
        for claim, paper in right_ones():
            for other in (claim[:-1], claim + ((),), claim + (None,), claim + claim[-1:], claim[1:], (claim,),
                          list(claim), claim[:1], (claim[0], claim[1:])):
                self.assertIs(accepts(other, paper), False, other)
                self.assertIs(accepts(other, ()), False, other)

    def test_bent(self):
        """Claims and papers that are like right ones but for one thing, at any depth."""
        maker = Maker(211)
        told = {True: 0, False: 0}
        for claim, paper in right_ones():
            for other in self.some(maker, bent(claim), 250):
                told[self.agrees(other, paper)] += 1
            if claim != ("Kochen-Specker", CABELLO):
                for other in self.some(maker, bent(paper), 250):
                    told[self.agrees(claim, other)] += 1
        self.assertGreater(told[False], 20000)
        self.assertGreater(told[True], 200)

    def test_true_for_one(self):
        """Neither in claims nor in papers."""
        def turned(value):
            """One number after the other told by True or False."""
            if isinstance(value, tuple):
                return [value[:at] + (other,) + value[at + 1:] for at, inside in enumerate(value)
                        for other in turned(inside)]
            return [bool(value)] if type(value) is int and value in (0, 1) else []

        maker = Maker(212)
        many = 0
        for claim, paper in right_ones():
            for other in self.some(maker, turned(claim), 60):
                many += 1
                self.assertEqual(other, claim)
                self.assertIs(accepts(other, paper), False, other)
            for other in self.some(maker, turned(paper), 60):
                many += 1
                self.assertIs(accepts(claim, other), False, (claim, other))
        self.assertGreater(many, 2000)

    def test_any_value(self):
        for value in any_values():
            for word in list(JUDGES) + ["told"]:
                for parts in range(6):
                    self.assertIs(accepts((word,) + (value,) * parts, ()), False)
            self.assertIs(accepts(value, ()), False)
            self.assertIs(accepts(value, value), False)
            self.assertIs(accepts((value,), ()), False)
        for claim, paper in right_ones():
            for value in any_values():
                self.agrees(claim, value)
                for at in range(len(claim)):
                    self.agrees(claim[:at] + (value,) + claim[at + 1:], paper)


class Deep(Pairs):
    """Any values at any depth of claims and papers."""

    def places(self, value, depth=0):
        if isinstance(value, tuple) and depth < 4:
            return [()] + [(at,) + more for at, inside in enumerate(value) for more in self.places(inside, depth + 1)]
        return [()]

    def put(self, value, place, other):
        if place == ():
            return other
        at = place[0]
        return value[:at] + (self.put(value[at], place[1:], other),) + value[at + 1:]

    def test_drawn_places(self):
        maker = Maker(213)
        values = any_values()
        for claim, paper in right_ones():
            if claim == ("Kochen-Specker", CABELLO):
                continue
            for _ in range(60):
                value = maker.random.choice(values)
                self.agrees(self.put(claim, maker.random.choice(self.places(claim)), value), paper)
                self.agrees(claim, self.put(paper, maker.random.choice(self.places(paper)), value))
                one, two = (self.put(told, maker.random.choice(self.places(told)), value) for told in (claim, paper))
                self.agrees(one, two)

    def test_parts_of_others(self):
        """Parts of right claims and papers in the places of others."""
        maker = Maker(214)
        pool = [part for claim, paper in right_ones() for part in claim[1:] + (paper,)]
        for claim, paper in right_ones():
            for _ in range(40):
                part = maker.random.choice(pool)
                at = maker.random.randrange(1, len(claim))
                self.agrees(claim[:at] + (part,) + claim[at + 1:], paper)
                self.agrees(claim, part)


class Families(Pairs):
    def test_fractions(self):
        """The right number alone, by papers at their edges."""
        row, covering = (NIL,) * 16, COVERING
        self.assertIs(accepts(("fraction", BELL, BOX, ONE), (row, covering)), True)
        for number in (NIL, HALF, BELOW, NEAR, (-1, 1), (2, 1), pair(1 - Fraction(1, 10 ** 40))):
            self.assertIs(accepts(("fraction", BELL, BOX, number), (row, covering)), False)
        rows = [pair(Fraction(1, 32) * frac(number)) for number in COVERING[0] * 4]
        self.agrees(("fraction", BELL, BOX, ONE), (tuple(rows), covering))
        for scenario, family in ((BELL, THREE), (BELL, EDGE), (TRIANGLE, (UNLIKE,) * 3), (PATH, UNEVEN)):
            told = joint_or_inequality(scenario, family)
            number = NIL if told[0] == "joint" else HALF
            for top in (Fraction(0), Fraction(1, 10 ** 30), Fraction(-1, 10 ** 30)):
                claim = ("fraction", scenario, family, pair(frac(number) + top))
                whole = tuple((ONE,) * len(secs(scenario, context)) for context in scenario[1])
                share = pair(Fraction(1, len(whole)))
                even = tuple((share,) * len(row) for row in whole)
                self.agrees(claim, (told[1] if told[0] == "joint" else (NIL,) * len(worlds(scenario)), even))

    def test_weights_at_the_bound(self):
        """A value that is not above the local bound shows nothing."""
        for share in (Fraction(1, 2), Fraction(1, 2) + Fraction(1, 10 ** 20), Fraction(1, 2) - Fraction(1, 10 ** 20)):
            family = mix(BOX, FLAT, share)
            self.assertIs(accepts(("contextual", BELL, family), CHSH), share > Fraction(1, 2))
            self.assertIs(accepts(("contextual", BELL, family), WON), share > Fraction(1, 2))

    def test_drawn(self):
        """Just one of two claims has a paper, and that one is right."""
        maker = Maker(215)
        words = {}
        for scenario in SMALL:
            for family in (maker.family(scenario, 9, 40), maker.joint_family(scenario, 9, 60)):
                word, paper = joint_or_inequality(scenario, family)
                words[word] = words.get(word, 0) + 1
                for claim in ("noncontextual", "contextual"):
                    is_so = claim == ("noncontextual" if word == "joint" else "contextual")
                    self.assertIs(self.agrees((claim, scenario, family), paper), is_so)
        self.assertGreater(min(words.values()), 5)

    def test_joined(self):
        maker = Maker(216)
        for scenario in SMALL:
            steps = reduction(scenario)
            if steps is None:
                continue
            for zeros in (0, 70):
                family = maker.joint_family(scenario, 9, zeros)
                along = joint_along(scenario, family, steps)
                self.assertIs(self.agrees(("joined", scenario, family, steps, along), ()), True)
                other = maker.distribution(scenario)
                self.agrees(("joined", scenario, family, steps, other), ())
                self.assertIs(accepts(("joined", scenario, family, steps, along), steps), steps == ())

    def test_wired(self):
        maker = Maker(217)
        told = {True: 0, False: 0}
        for scenario, other in ((BELL, PATH), (BELL, PAIR), (TRIANGLE, COIN), (PATH, PAIR)):
            for wiring in drawn_wirings(maker, scenario, other, 12):
                family = maker.joint_family(scenario, 9, 50)
                claim = ("wired", scenario, other, wiring, family, maker.joint_family(other))
                told[self.agrees(claim, ())] += 1
                try:
                    claim = claim[:-1] + (wired(scenario, other, wiring, family),)
                except ValueError:
                    continue
                told[self.agrees(claim, ())] += 1
        self.assertGreater(min(told.values()), 10)

    def test_against(self):
        """The families of obstructions are contextual to the full."""
        for scenario in SMALL:
            found = obstruction(scenario)
            if found is not None:
                family = family_against(scenario, found)
                word, paper = joint_or_inequality(scenario, family)
                self.assertIs(accepts(("contextual", scenario, family), paper), True)
                self.assertIs(accepts(("strongly contextual", scenario, support_of(scenario, family)), ()), True)
                self.assertIs(accepts(("cyclic", scenario), found), True)
                self.assertIs(accepts(("acyclic", scenario), found), False)


class Games(Pairs):
    def test_facets(self):
        """All choices of assignments that meet an inequality: those in no lesser flat alone."""
        triangle = ((ONE, NIL, NIL, ONE), (ONE, NIL, NIL, ONE), (ONE, NIL, NIL, ONE))
        told = {True: 0, False: 0}
        for scenario, inequality in ((PATH, positive(PATH, 0, 3)), (TRIANGLE, (triangle, (3, 1))),
                                     (PAIR, positive(PAIR, 0, 1)),
                                     (TRIANGLE, (tuple(tuple((-a, b) for a, b in row) for row in triangle), (-1, 1)))):
            met = [world for world, number in zip(worlds(scenario), own_sums(scenario, inequality[0]))
                   if number == frac(inequality[1])]
            many = len(own_inner(scenario))
            for paper in list(combinations(met, many)) + list(combinations(worlds(scenario), many))[:60] + [
                    tuple(met), tuple(met[:many - 1]), tuple(met[:many])[::-1], tuple(met[:1] * many)]:
                told[self.agrees(("facet", scenario, inequality), paper)] += 1
        self.assertGreater(min(told.values()), 10)

    def test_bell_facet(self):
        """The eight that meet it are all that can be a paper."""
        facet = (WON, (3, 1))
        met = [world for world, number in zip(worlds(BELL), own_sums(BELL, WON)) if number == 3]
        self.assertEqual(len(met), 8)
        self.assertIs(accepts(("facet", BELL, facet), tuple(met)), True)
        for at in range(8):
            self.assertIs(accepts(("facet", BELL, facet), tuple(met[:at] + met[at + 1:])), False)
            for world in worlds(BELL):
                other = tuple(sorted(met[:at] + [world] + met[at + 1:]))
                self.assertIs(accepts(("facet", BELL, facet), other), other == tuple(met))

    def test_relabellings(self):
        """Each of the square's relabellings, beside each."""
        maker = Maker(218)
        facet = (WON, (3, 1))
        every = own_relabellings(BELL)
        other = led_inequality(BELL, every[77], facet)
        many = 0
        for told in maker.random.sample(every, 60) + [every[77]]:
            many += self.agrees(("equivalent", BELL, facet, other), told)
        self.assertGreater(many, 0)
        wide = (((ONE, HALF) + (NIL,) * 62,), ONE)
        wider = (((NIL,) * 62 + (HALF, ONE),), ONE)
        led = ((0, 1, 2), ((3, 1, 2, 0), (3, 1, 2, 0), (3, 2, 1, 0)))
        self.assertIs(own_margins(WHOLE, (own_led(WHOLE, led, wide[0]), ONE)) == own_margins(WHOLE, wider), True)
        self.assertIs(accepts(("equivalent", WHOLE, wide, wider), led), True)
        self.assertIs(accepts(("not equivalent", WHOLE, wide, wider), ()), False)
        self.assertIs(accepts(("not equivalent", WHOLE, wide, (((NIL,) * 64,), ONE)), ()), False)

    def test_bounds_and_families(self):
        maker = Maker(219)
        for scenario in SMALL:
            game = maker.game(scenario)
            best, family, bound = no_signalling_value(scenario, game)
            for more in (Fraction(0), Fraction(1, 10 ** 20), Fraction(-1, 10 ** 20), Fraction(5)):
                number = pair(frac(best) + more)
                self.assertIs(self.agrees(("reaches", scenario, game, number), family), more <= 0)
                self.assertIs(self.agrees(("reaches less", scenario, game, number), bound), more > 0)
                for claim in ("wins", "wins less"):
                    self.agrees((claim, scenario, game, number), ())
                    self.agrees((claim, scenario, game, number), maker.random.choice(worlds(scenario)))
        signalling = (LIKE, LIKE, LIKE, (NIL, ONE, NIL, NIL))
        self.assertEqual(own_value(lines(GAME), signalling), 1)
        self.assertIs(accepts(("reaches", BELL, GAME, ONE), signalling), False)

    def test_rounds(self):
        """At the tail, above and below it."""
        for number, wins in product((0, 1, 2, 5, 100), (0, 1, 2, 5, 6, 100)):
            top = own_tail(number, wins, Fraction(3, 4))
            for more in (Fraction(0), Fraction(1, 10 ** 80), Fraction(-1, 10 ** 80)):
                chance = pair(top + more)
                is_right = 0 <= top + more <= 1
                claim = (BELL, GAME, number, wins, chance)
                self.assertIs(accepts(("never more",) + claim, ()), is_right and more >= 0)
                self.assertIs(accepts(("at times more",) + claim, (0, 0, 0, 0)), is_right and more < 0)
                self.agrees(("at times more",) + claim, (0, 0, 1, 0))

    def test_plans(self):
        maker = Maker(220)
        for scenario in (BELL, TRIANGLE, PATH, COIN):
            for number in (0, 1, 2, 3):
                game, plan = maker.game(scenario), drawn_plan(maker, scenario, number)
                for wins in range(number + 2):
                    chance = own_plan_chance(scenario, game, plan, wins)
                    self.assertIs(accepts(("plan", scenario, game, plan, wins, pair(chance)), ()), True)
                    for more in (Fraction(1, 10 ** 30), Fraction(-1, 10 ** 30), Fraction(1), Fraction(-1)):
                        self.assertIs(accepts(("plan", scenario, game, plan, wins, pair(chance + more)), ()), False)
                    self.assertIs(accepts(("plan", scenario, game, plan, wins, pair(chance)), plan or None), False)

    def test_long_plans(self):
        game = ((ONE,), ((1, 0),))
        for number, is_right in ((100, True), (399, True), (400, True), (401, False)):
            self.assertIs(accepts(("plan", COIN, game, in_one(COIN, number), 50, ONE), ()), is_right)
        plan = constant_plan(SEVEN, 4, (0,) * 5)
        game = (((1, 7),) * 7, ((1, 0, 0, 1),) * 7)
        self.assertIs(accepts(("plan", SEVEN, game, plan, 4, ONE), ()), True)
        self.assertIs(accepts(("plan", SEVEN, game, ((0,) * 5, (plan,) * 7), 4, ONE), ()), False)


class Supports(Pairs):
    def test_drawn(self):
        """Every possible assignment, and no other; every section."""
        maker = Maker(221)
        told = {True: 0, False: 0}
        for scenario in (BELL, TRIANGLE, PATH, SMALL[7], ring(5)):
            for share in (30, 60, 80):
                support = drawn_support(maker, scenario, share)
                self.agrees(("strongly contextual", scenario, support), ())
                for world in worlds(scenario):
                    told[self.agrees(("possible", scenario, support), world)] += 1
                    for at in range(len(scenario[1])):
                        section = maker.random.choice(support[at])
                        told[self.agrees(("extends", scenario, support, at, section), world)] += 1
                        self.agrees(("does not extend", scenario, support, at, section), ())
        self.assertGreater(min(told.values()), 50)

    def test_families_and_balances(self):
        maker = Maker(222)
        words = {}
        for scenario in SMALL:
            for share in (50, 90):
                support = drawn_support(maker, scenario, share)
                if sum(map(len, support)) > 32:
                    continue
                word, paper = family_with(scenario, support)
                words[word] = words.get(word, 0) + 1
                self.assertIs(self.agrees(("family with", scenario, support), paper), word == "family")
                self.assertIs(self.agrees(("no family with", scenario, support), paper), word == "barred")
                if word == "barred":
                    turned = tuple(tuple((-a, b) for a, b in row) for row in paper)
                    self.agrees(("no family with", scenario, support), turned)
                    nothing = tuple((NIL,) * len(row) for row in paper)
                    self.assertIs(accepts(("no family with", scenario, support), nothing), False)
        self.assertGreater(min(words.values()), 3)

    def test_more_than_thirty_two(self):
        """The claim knows no limit of how many sections are possible."""
        whole = tuple(worlds(WHOLE))
        self.assertIs(accepts(("family with", WHOLE, (whole,)), (((1, 64),) * 64,)), True)
        self.assertIs(accepts(("no family with", WHOLE, (whole,)), ()), False)

    def test_signalling_ones(self):
        """A family with just the support that is not no-signalling is no paper."""
        row = (THIRD, NIL, NIL, (2, 3))
        for family in ((row, LIKE, LIKE, UNLIKE), (LIKE, LIKE, row, UNLIKE), (row, row, row, UNLIKE)):
            self.assertEqual(support_of(BELL, family), SIGNS)
            self.assertIs(self.agrees(("family with", BELL, SIGNS), family), False)
        self.assertIs(accepts(("family with", BELL, SIGNS), BOX), True)

    def test_three_outcomes(self):
        """Parities are of two outcomes each: the same rows, and one observable with three."""
        rows = solved_or_odd(BELL, SIGNS)[1]
        wide = ((2, 2, 2, 3), BELL[1])
        for support in (SIGNS, (SAME,) * 4):
            for paper in (rows, (0, 0, 0, 0), (1, 1, 1, 1)):
                for word in ("all versus nothing", "parities solved"):
                    self.assertIs(self.agrees((word, wide, support), paper), False)

    def test_parities(self):
        maker = Maker(223)
        words = {}
        for scenario in (BELL, TRIANGLE, PATH, ring(5)):
            for _ in range(5):
                support = parity_support(maker, scenario, 1)
                word, paper = solved_or_odd(scenario, support)
                words[word] = words.get(word, 0) + 1
                self.assertIs(self.agrees(("parities solved", scenario, support), paper), word == "solved")
                self.assertIs(self.agrees(("all versus nothing", scenario, support), paper), word == "odd")
                for world in worlds(scenario):
                    self.agrees(("parities solved", scenario, support), world)
        self.assertEqual(set(words), {"solved", "odd"})

    def test_argument_of_other_rows(self):
        """An argument, but one of a row that the support does not have."""
        rows = solved_or_odd(BELL, SIGNS)[1]
        wide = SIGNS[:3] + (((0, 1), (1, 0), (1, 1)),)
        self.assertIs(accepts(("all versus nothing", BELL, wide), rows), False)
        self.assertIs(accepts(("all versus nothing", BELL, SIGNS), rows), True)
        self.assertIs(accepts(("all versus nothing", BELL, (SAME,) * 4), rows), False)

    def test_markings(self):
        """All rows of marks of a few vectors."""
        maker = Maker(224)
        told = {True: 0, False: 0}
        for vectors in (pool(2, 2), pool(3, 1), pool(4, 1)):
            drawn = tuple(maker.random.sample(vectors, 7))
            for marks in product((0, 1), repeat=7):
                told[self.agrees(("marking", drawn), marks)] += 1
            self.agrees(("Kochen-Specker", drawn), ())
        self.assertGreater(min(told.values()), 20)

    def test_marks_are_zero_or_one(self):
        """Also those of vectors that are in no basis."""
        for marks in product((-1, 0, 1, 2), repeat=4):
            self.agrees(("marking", AXES), marks)
        self.assertIs(accepts(("marking", AXES), (1, 0, 0, 2)), False)
        self.assertIs(accepts(("marking", ((1, 2),)), (2,)), False)
        self.assertIs(accepts(("marking", ((1, 2),)), (1,)), True)

    def test_trees_of_marked_ones(self):
        """Vectors with a marking have no tree: here all ends are right but for pairs that are not orthogonal."""
        end = ("basis", (2, 3))
        below = (1, (2, ("pair", 1, 2), (3, ("pair", 1, 3), end)), ("basis", (0, 1)))
        tree = (0, (2, ("pair", 0, 2), (1, ("pair", 0, 1), (3, ("pair", 0, 3), end))), below)
        self.assertIs(self.agrees(("Kochen-Specker", VECTORS), tree), False)
        self.assertIs(accepts(("marking", VECTORS), (1, 0, 1, 0)), True)

        def grown(ones, zeros):
            """A tree that ends wherever some pair or basis, right or not, might be told."""
            if len(ones) == 2:
                return ("pair",) + tuple(sorted(ones))
            free = [x for x in range(4) if x not in ones + zeros]
            if not free or len(zeros) == 2:
                return ("basis", tuple(sorted(zeros[:2])))
            at = maker.random.choice(free)
            return (at, grown(ones + (at,), zeros), grown(ones, zeros + (at,)))

        maker = Maker(228)
        for _ in range(200):
            self.assertIs(self.agrees(("Kochen-Specker", VECTORS), grown((), ())), False)

    def test_trees(self):
        """Trees that are wrong at one place of their own."""
        claim = ("Kochen-Specker", CABELLO)
        tree = marking(CABELLO)[1]
        self.assertIs(accepts(claim, tree), True)
        ends = []

        def find(value, place):
            if isinstance(value[0], str):
                ends.append(place)
            else:
                find(value[1], place + (1,))
                find(value[2], place + (2,))

        def put(value, place, other):
            return other if place == () else (
                value[:place[0]] + (put(value[place[0]], place[1:], other),) + value[place[0] + 1:])

        def at(value, place):
            return value if place == () else at(value[place[0]], place[1:])

        find(tree, ())
        maker = Maker(225)
        for place in maker.random.sample(ends, min(12, len(ends))):
            end = at(tree, place)
            others = bent(end) + [("pair", 0, 1), ("basis", bases_of(CABELLO)[0]), tree, None, (), tree[0],
                                  (0, end, end), (at(tree, place[:-1])[0], end, end)]
            for other in self.some(maker, others, 25):
                self.agrees(claim, put(tree, place, other))
            above = at(tree, place[:-1])
            self.agrees(claim, put(tree, place[:-1], (above[0], above[2], above[1])))
            self.agrees(claim, put(tree, place[:-1], above[1:]))
            # What stands for a vector more, whichever mark it has, is no harm.
            marked = set()
            left = tree
            for step in place:
                marked.add(left[0])
                left = left[step]
            free = [x for x in range(18) if x not in marked]
            self.assertIs(self.agrees(claim, put(tree, place, (free[0], end, end))), True)
            self.assertIs(self.agrees(claim, put(tree, place, (min(marked), end, end))), False)

    def test_odd_bases(self):
        claim = ("Kochen-Specker", CABELLO)
        bases = bases_of(CABELLO)
        self.assertEqual(odd_bases(CABELLO), bases)
        for wrong in (bases[:-1], bases[::-1], bases + bases[-1:], bases[:1] * 9, bases + bases, (), bases[:1],
                      tuple(map(list, bases)), list(bases), bases[1:] + bases[:1], bases[:-1] + (bases[-1][:3],),
                      tuple(basis[::-1] for basis in bases), bases + ((0, 1, 2, 3),)):
            self.assertIs(accepts(claim, wrong), False)
        maker = Maker(226)
        peres = tuple(vector for vector in pool(4, 1) if sum(map(abs, vector)) != 3)
        for many in (19, 21, 24):
            drawn = tuple(maker.random.sample(peres, many))
            odd, word = odd_bases(drawn), marking(drawn)[0]
            if odd is not None:
                self.assertIs(self.agrees(("Kochen-Specker", drawn), odd), True)
            self.agrees(("marking" if word == "marked" else "Kochen-Specker", drawn), marking(drawn)[1])


class Labs(Pairs):
    def test_values(self):
        """Outcomes of the square without one of its lines: all of them."""
        told = {True: 0, False: 0}
        fewer = LINES[1:]
        for outcomes in product((0, 1), repeat=9):
            told[self.agrees(("valued", SQUARE, fewer), outcomes)] += 1
            self.assertIs(accepts(("valued", SQUARE, LINES), outcomes), False)
        self.assertGreater(min(told.values()), 10)

    def test_arguments_of_other_lines(self):
        """The star's rows for the square, and a row that is none of the square's."""
        rows = valued_or_odd(SQUARE, LINES)[1]
        self.assertIs(accepts(("odd whatever the state", SQUARE, LINES[1:]), rows), False)
        turned = ((-1, "XI"),) + SQUARE[1:]
        self.assertIs(self.agrees(("odd whatever the state", turned, LINES), rows), False)
        self.assertIs(self.agrees(("odd whatever the state", turned, LINES), valued_or_odd(turned, LINES)[1]), True)

    def test_texts(self):
        """Whatever text it is read from."""
        text = "observables a 2, b 2\ncontexts b a\nfamily f\nb a: 11 1/2, 00 rest"
        lab = read_lab(text)
        self.assertIs(self.agrees(("reads", text, lab), ()), True)
        self.assertIs(self.agrees(("reads", lab_text(lab), lab), ()), True)
        for wrong in (text + "\n", text[:-1], text.replace("1/2", "1/3"), "", "lab"):
            self.assertIs(accepts(("reads", wrong, lab), ()), own_accepts(("reads", wrong, lab), ()))
        for wrong in (text.encode(), None, [text], lab):
            self.assertIs(accepts(("reads", wrong, lab), ()), False)
        self.assertIs(accepts(("reads", text, lab), text), False)

    def test_settled(self):
        for name in ("box", "coin", "chsh", "win", "noisy", "tame", "both", "a", "nobody"):
            for row in (joint_in(LAB, "tame"), joint_in(LAB, "coin"), ((1, 16),) * 16):
                self.assertIs(self.agrees(("settled", LAB, name, row), ()), name == "tame" and row == joint_in(LAB,
                                                                                                               "tame"))

    def test_logs(self):
        maker = Maker(227)
        words = {}
        for scenario in SMALL:
            for many in (0, 1, 5, 40):
                log = drawn_log(maker, scenario, many)
                best = maker.family(scenario)
                rows = [[sum(told == (at, section) for told in log) for section in secs(scenario, context)]
                        for at, context in enumerate(scenario[1])]
                best = tuple(tuple(pair(Fraction(often, sum(row))) for often in row) if sum(row) else other
                             for row, other in zip(rows, best))
                for family in (best, maker.family(scenario), mix(best, maker.family(scenario), Fraction(9, 10))):
                    for word, paper in (("most likely", ()), ("not most likely", best), ("not most likely", family)):
                        is_taken = self.agrees((word, scenario, log, family), paper)
                        words[word, is_taken] = words.get((word, is_taken), 0) + 1
        self.assertGreater(min(words.values()), 10)
        self.assertEqual(len(words), 4)

    def test_long_logs(self):
        log = LOG[:1] * 400
        family = ((ONE, NIL, NIL, NIL),) + FLAT[1:]
        self.assertIs(accepts(("most likely", BELL, log, family), ()), True)
        self.assertIs(accepts(("most likely", BELL, log + log[:1], family), ()), False)
        self.assertIs(accepts(("not most likely", BELL, log, FLAT), family), True)
        self.assertIs(accepts(("not most likely", BELL, log + log[:1], FLAT), family), False)


class Fractions(Pairs):
    def test_numbers(self):
        """What is no fraction is no number of a claim."""
        for wrong in ((2, 4), (1, 0), (1, -1), 1, True, None, "1", (1,), (1, 1, 1), [1, 1], (True, 1), (1, True), (0,
                                                                                                                   2)):
            self.assertIs(own_is_fraction(wrong), False)
            for claim, paper in right_ones():
                if claim[0] in ("fraction", "wins", "wins less", "reaches", "reaches less", "never more",
                                "at times more",
                                "plan"):
                    self.assertIs(accepts(claim[:-1] + (wrong,), paper), False)

    def test_great_numbers(self):
        small = (1, 10 ** 399 + 1)
        for sign, is_more in ((-1, True), (1, False)):
            number = pair(Fraction(3, 4) + sign * frac(small))
            self.assertIs(accepts(("wins", BELL, GAME, number), (0, 0, 0, 0)), is_more)
            self.assertIs(accepts(("wins less", BELL, GAME, number), ()), not is_more)
        self.assertIs(accepts(("fraction", BELL, BOX, pair(1 - frac(small))), ((NIL,) * 16, COVERING)), False)
        family = mix(BOX, FLAT, Fraction(1, 2) + frac(small))
        self.assertIs(accepts(("contextual", BELL, family), CHSH), True)


if __name__ == "__main__":
    unittest.main()
