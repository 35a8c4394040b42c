"""[25] to [27]: supports, possible global assignments, Hardy's paradox, which supports come about."""

import unittest
from fractions import Fraction
from itertools import combinations, product

from belltables.acyclic import family_against, is_acyclic, obstruction
from belltables.errors import InvalidNumber, InvalidSection, InvalidSupport, TooMany, Unfit
from belltables.fractions import contextual_fraction
from belltables.possible import (
    contextuality_of, extending, extension, family_with, hardy, is_consistent, is_support, non_extending, support_of)
from tests.harness import Case
from tests.own import (
    BELL, BOX, COIN, LARGE, LIKE, NIL, ONE, PATH, SMALL, TRIANGLE, Maker, all_of, any_values, bent, frac, fracs, mix,
    own_agreed, own_consistent, own_is_fraction, own_is_row, own_is_section, own_is_support, own_possible, own_support,
    own_told, part, point, ring, secs, worlds)

SAME, OTHER_WAY = ((0, 0), (1, 1)), ((0, 1), (1, 0))
SIGNS = (SAME, SAME, SAME, OTHER_WAY)
FULL = tuple(product((0, 1), repeat=2))
PARADOX = (FULL, ((0, 0), (1, 0), (1, 1)), ((0, 0), (0, 1), (1, 1)), ((0, 1), (1, 0), (1, 1)))
BARRED = (SAME, SAME, SAME, ((0, 0), (0, 1), (1, 1)))


def drawn_support(maker, scenario, share):
    """Some support; each section is in it with a chance of about so many in a hundred."""
    rows = []
    for context in scenario[1]:
        sections = secs(scenario, context)
        kept = [told for told in sections if maker.random.randrange(100) < share]
        rows.append(tuple(kept or [maker.random.choice(sections)]))
    return tuple(rows)


def consistent_part(scenario, support):
    """The greatest consistent support within one; None if a context has nothing left."""
    rows = [list(row) for row in support]
    while True:
        before = [list(row) for row in rows]
        for (one, first), (two, second) in combinations(list(zip(scenario[1], rows)), 2):
            lot = tuple(x for x in one if x in two)
            common = {own_told(one, told, lot) for told in first} & {own_told(two, told, lot) for told in second}
            first[:] = [told for told in first if own_told(one, told, lot) in common]
            second[:] = [told for told in second if own_told(two, told, lot) in common]
        if not all(rows):
            return None
        if rows == before:
            return tuple(map(tuple, rows))


def drawn_consistent(maker, scenario, many):
    """Consistent supports, of global assignments and of others."""
    found = []
    for _ in range(many):
        points = maker.random.choices(worlds(scenario), k=maker.random.randint(1, 4))
        rows = [sorted({*row, *(told for told in secs(scenario, context) if maker.random.random() < 0.2)})
                for context, row in zip(scenario[1], own_support(scenario, points))]
        found.append(consistent_part(scenario, tuple(map(tuple, rows))))
        told = consistent_part(scenario, drawn_support(maker, scenario, 60))
        if told is not None:
            found.append(told)
    return found


class Forms(Case):
    def test_right(self):
        maker = Maker(91)
        for scenario in SMALL + LARGE:
            for share in (0, 30, 100):
                self.assertIs(is_support(scenario, drawn_support(maker, scenario, share)), True)

    def test_bent(self):
        for scenario, right in ((BELL, PARADOX), (COIN, (((1,),),)), (((2, 3), ((0, 1),)), (((0, 2), (1, 0)),))):
            self.assertIs(is_support(scenario, right), True)
            told = {True: 0, False: 0}
            for value in bent(right):
                is_right = own_is_support(scenario, value)
                told[is_right] += 1
                self.assertIs(is_support(scenario, value), is_right, value)
            self.assertGreater(told[False], 30)

    def test_any_value(self):
        for value in any_values():
            for scenario, wrong in ((BELL, value), (COIN, value), (COIN, (value,)), (BELL, PARADOX[:3] + (value,)),
                                    (COIN, ((value,),)), (COIN, (((value,),),)), (COIN, (((0,), value),)),
                                    (((2, 2), ((0, 1),)), ((value,),)), (((2, 2), ((0, 1),)), (((value, 1),),))):
                self.assertIs(is_support(scenario, wrong), own_is_support(scenario, wrong), wrong)

    def test_index(self):
        """The first row that is wrong is told."""
        self.refuses((InvalidSupport, "index", None), extending, BELL, SIGNS[:3])
        self.refuses((InvalidSupport, "index", None), extending, BELL, list(SIGNS))
        for at in range(4):
            for wrong in ((), SAME[::-1], SAME + SAME[1:], [(0, 0)], ((0, 0, 0),), ((0, 2),), ((0, True),), None):
                rows = SIGNS[:at] + (wrong,) + ((),) * (3 - at)
                self.refuses((InvalidSupport, "index", at), is_consistent, BELL, rows)


class Supports(Case):
    def test_support_of(self):
        maker = Maker(92)
        for scenario in SMALL + LARGE:
            for family in (maker.family(scenario, 9, 50), maker.joint_family(scenario, 9, 80)):
                own = tuple(tuple(told for told, number in zip(secs(scenario, context), row) if number[0] > 0)
                            for context, row in zip(scenario[1], family))
                self.assertEqual(support_of(scenario, family), own)
                self.assertIs(is_support(scenario, own), True)
                if own_agreed(scenario, family):
                    self.assertIs(is_consistent(scenario, own), True)
        self.assertEqual(support_of(BELL, BOX), SIGNS)

    def test_is_consistent(self):
        maker = Maker(93)
        told = {True: 0, False: 0}
        for scenario in SMALL + LARGE:
            cases = drawn_consistent(maker, scenario, 3) + [drawn_support(maker, scenario, 80) for _ in range(6)]
            for support in cases:
                is_right = own_consistent(scenario, support)
                told[is_right] += 1
                self.assertIs(is_consistent(scenario, support), is_right)
        self.assertGreater(min(told.values()), 30)
        # Contexts that share nothing agree about it.
        self.assertIs(is_consistent(((2, 2), ((0,), (1,))), (((0,),), ((1,),))), True)

    def test_walk(self):
        """All words beside a walk through all global assignments."""
        maker = Maker(94)
        words = {}
        for scenario in SMALL + LARGE:
            cases = drawn_consistent(maker, scenario, 5) + [drawn_support(maker, scenario, 70) for _ in range(4)]
            if obstruction(scenario):
                cases.append(support_of(scenario, family_against(scenario, obstruction(scenario))))
            for support in cases:
                possible = own_possible(scenario, support)
                self.assertEqual(extending(scenario, support), tuple(possible))
                stuck = []
                for at, (context, row) in enumerate(zip(scenario[1], support)):
                    for section in row:
                        own = [world for world in possible if part(world, context) == section]
                        told = extension(scenario, support, at, section)
                        if own:
                            self.assertIn(told, own)
                        else:
                            self.assertIsNone(told)
                            stuck.append((at, section))
                self.assertEqual(non_extending(scenario, support), tuple(stuck))
                word = "strongly contextual" if not possible else (
                    "logically contextual" if stuck else "extends everywhere")
                self.assertEqual(contextuality_of(scenario, support), word)
                words[word] = words.get(word, 0) + 1
                if is_acyclic(scenario) and own_consistent(scenario, support):
                    self.assertEqual(word, "extends everywhere")
        self.assertGreater(min(words.values()), 10)
        self.assertEqual(len(words), 3)

    def test_extension_errors(self):
        for at in (4, -1, True, None, "0", (0,)):
            self.refuses((InvalidNumber, "given", at), extension, BELL, SIGNS, at, (0, 0))
        for value in any_values() + bent((0, 1)):
            if not own_is_section(BELL, (0, 2), value) or value not in SIGNS[3]:
                self.refuses((InvalidSection, "given", value), extension, BELL, SIGNS, 3, value)
        self.refuses((InvalidSection, "given", (0, 1)), extension, BELL, SIGNS, 0, (0, 1))
        self.refuses((InvalidSection, "given", (False, 0)), extension, BELL, SIGNS, 0, (False, 0))

    def test_contextual_fraction(self):
        """1 exactly if the support is strongly contextual; above 0 if it is logically contextual."""
        maker = Maker(95)
        words = {}
        for scenario, box in ((BELL, BOX), (TRIANGLE, family_against(TRIANGLE, obstruction(TRIANGLE)))):
            families = [box, mix(box, point(scenario, (1,) * len(scenario[0])), Fraction(1, 2))]
            families += [maker.joint_family(scenario, 9, 60) for _ in range(4)]
            for support in drawn_consistent(maker, scenario, 30) + [PARADOX] * (scenario == BELL):
                if sum(map(len, support)) <= 32 and family_with(scenario, support)[0] == "family":
                    families.append(family_with(scenario, support)[1])
            for family in families:
                word = contextuality_of(scenario, support_of(scenario, family))
                words[word] = words.get(word, 0) + 1
                number = frac(contextual_fraction(scenario, family))
                self.assertEqual(number == 1, word == "strongly contextual")
                if word == "logically contextual":
                    self.assertGreater(number, 0)
        self.assertEqual(len(words), 3)

    def test_cyclic_ones(self):
        """Where the contexts are not acyclic some consistent support does not extend everywhere."""
        for scenario in SMALL + LARGE:
            if obstruction(scenario):
                support = support_of(scenario, family_against(scenario, obstruction(scenario)))
                self.assertIs(is_consistent(scenario, support), True)
                self.assertEqual(contextuality_of(scenario, support), "strongly contextual")


def own_hardy(scenario, support):
    """Word by word as [26] tells it."""
    table = {context: row for context, row in zip(scenario[1], support)}
    possible = own_possible(scenario, support)
    found = []
    for at, (context, row) in enumerate(zip(scenario[1], support)):
        a, b = context
        other_a, other_b = 1 - a, 5 - b
        for x, y in row:
            p = tuple(o for o in range(scenario[0][other_a]) if (o, y) in table[(other_a, b)])
            q = tuple(o for o in range(scenario[0][other_b]) if (x, o) in table[(a, other_b)])
            if not any(part(world, context) == (x, y) for world in possible):
                found.append((at, (x, y), p, q))
    return tuple(found)


class Hardy(Case):
    def test_two_outcomes(self):
        """All consistent supports of Bell's contexts with two outcomes each."""
        rows = [row for many in range(1, 5) for row in combinations(FULL, many)]
        some = 0
        for support in product(rows, repeat=4):
            if sum(map(len, support)) % 3 == 0 and own_consistent(BELL, support):
                told = hardy(BELL, support)
                self.assertEqual(told, own_hardy(BELL, support))
                for _, _, p, q in told:
                    self.assertEqual((len(p), len(q)), (1, 1))
                some += len(told)
        self.assertGreater(some, 100)

    def test_more_outcomes(self):
        maker = Maker(96)
        some, wide = 0, 0
        for sizes in ((3, 2, 3, 2), (2, 3, 2, 2), (3, 2, 2, 3), (2, 2, 4, 4), (3, 3, 2, 3)):
            scenario = (sizes, BELL[1])
            for support in drawn_consistent(maker, scenario, 60):
                told = hardy(scenario, support)
                self.assertEqual(told, own_hardy(scenario, support))
                some += len(told)
                wide += any(len(p) > 1 or len(q) > 1 for _, _, p, q in told)
                for at, (x, y), p, q in told:
                    self.assertTrue(p and q)
                    across = support[3 - at]
                    pairs = [(o, r) for o in p for r in q]
                    self.assertFalse(any(told in across for told in pairs))
        self.assertGreater(some, 50)
        self.assertGreater(wide, 5)

    def test_refused(self):
        for scenario in (TRIANGLE, COIN, ((2,) * 5, BELL[1] + ((4,),)), ring(4), PATH, ((2,) * 4, BELL[1][1:])):
            support = tuple(tuple(secs(scenario, context)) for context in scenario[1])
            self.refuses((Unfit, "given", scenario[1]), hardy, scenario, support)
        wrong = (((0, 0),), SAME, SAME, SAME)
        self.refuses((Unfit, "given", wrong), hardy, BELL, wrong)
        # Other contexts come ahead of a support that is not consistent.
        self.refuses((Unfit, "given", PATH[1]), hardy, PATH, (((0, 0),), ((1, 1),)))


def common_rows(scenario):
    """For each two contexts, in order, the tuples of outcomes of what they share."""
    pairs = list(combinations(range(len(scenario[1])), 2))
    lots = [tuple(x for x in scenario[1][i] if x in scenario[1][j]) for i, j in pairs]
    return pairs, lots, [secs(scenario, lot) for lot in lots]


def own_gains(scenario, support, balance):
    """The gains of all possible sections."""
    pairs, lots, rows = common_rows(scenario)
    tables = [dict(zip(row, numbers)) for row, numbers in zip(rows, fracs(balance))]
    gains = []
    for at, (context, row) in enumerate(zip(scenario[1], support)):
        for section in row:
            gain = Fraction(0)
            for (i, j), lot, table in zip(pairs, lots, tables):
                if at == i:
                    gain += table[own_told(context, section, lot)]
                if at == j:
                    gain -= table[own_told(context, section, lot)]
            gains.append(gain)
    return gains


class Coming(Case):
    def judge(self, scenario, support):
        told = family_with(scenario, support)
        self.assertEqual(len(told), 2)
        if told[0] == "family":
            family = told[1]
            self.assertIs(type(family), tuple)
            for context, row, possible in zip(scenario[1], family, support):
                sections = secs(scenario, context)
                self.assertTrue(own_is_row(row, len(sections)))
                self.assertEqual(tuple(s for s, number in zip(sections, row) if number != NIL), possible)
            self.assertTrue(own_agreed(scenario, family))
        else:
            self.assertEqual(told[0], "barred")
            rows = common_rows(scenario)[2]
            self.assertIs(type(told[1]), tuple)
            self.assertEqual([len(row) for row in told[1]], [len(row) for row in rows])
            self.assertTrue(all(own_is_fraction(number) for row in told[1] for number in row))
            gains = own_gains(scenario, support, told[1])
            self.assertGreaterEqual(min(gains), 0)
            self.assertGreater(max(gains), 0)
        return told[0]

    def test_global_assignments(self):
        """The mean of deterministic families has just this support."""
        maker = Maker(97)
        for scenario in SMALL + LARGE:
            for many in (1, 2, 3, 5, 9):
                points = maker.random.sample(worlds(scenario), min(many, len(worlds(scenario))))
                support = own_support(scenario, points)
                if sum(map(len, support)) <= 32:
                    self.assertEqual(self.judge(scenario, support), "family")

    def test_not_consistent(self):
        maker = Maker(98)
        barred = 0
        for scenario in SMALL + LARGE:
            for share in (20, 40):
                support = drawn_support(maker, scenario, share)
                if sum(map(len, support)) <= 32:
                    word = self.judge(scenario, support)
                    if not own_consistent(scenario, support):
                        self.assertEqual(word, "barred")
                        barred += 1
        self.assertGreater(barred, 20)

    def test_rings_with_ties(self):
        """Supports that are consistent, and yet come of no family."""
        words = []
        for many in (3, 4, 5, 6):
            scenario = ring(many)
            for unlike in range(many + 1):
                rows = [SAME] * (many - unlike) + [OTHER_WAY] * unlike
                words.append(self.judge(scenario, tuple(rows)))
                words.append(self.judge(scenario, tuple(rows[:-1]) + (((0, 0), (0, 1), (1, 1)),)))
                words.append(self.judge(scenario, tuple(rows[:-1]) + (FULL,)))
                words.append(self.judge(scenario, (FULL[1:],) + tuple(rows[1:])))
        self.assertGreater(words.count("family"), 10)
        self.assertGreater(words.count("barred"), 10)
        self.assertEqual(self.judge(BELL, BARRED), "barred")
        self.assertEqual(self.judge(BELL, PARADOX), "family")
        self.assertEqual(family_with(BELL, SIGNS), ("family", BOX))

    def test_consistent_ones(self):
        maker = Maker(99)
        words = []
        for scenario in SMALL + LARGE:
            for support in drawn_consistent(maker, scenario, 6):
                if sum(map(len, support)) <= 32:
                    words.append(self.judge(scenario, support))
        self.assertGreater(words.count("family"), 50)
        self.assertGreater(words.count("barred"), 2)

    def test_one_context(self):
        self.assertEqual(family_with(COIN, (((1,),),)), ("family", ((NIL, ONE),)))
        wide = ((4, 4, 2), ((0, 1, 2),))
        self.assertEqual(self.judge(wide, (tuple(worlds(wide)),)), "family")

    def test_greatest(self):
        """32 possible sections are let, 33 are not."""
        threes = all_of((2,) * 6, 3)
        maker = Maker(100)
        words = []
        for _ in range(6):
            world = maker.random.choice(worlds(threes))
            rows = [set(row) for row in own_support(threes, [world])]
            while sum(map(len, rows)) < 32:
                at = maker.random.randrange(20)
                rows[at].add(maker.random.choice(secs(threes, threes[1][at])))
            support = tuple(tuple(sorted(row)) for row in rows)
            words.append(self.judge(threes, support))
            at = next(at for at in range(20) if len(rows[at]) < 8)
            more = next(told for told in secs(threes, threes[1][at]) if told not in rows[at])
            rows[at].add(more)
            wrong = tuple(tuple(sorted(row)) for row in rows)
            self.refuses((TooMany, "given", 33), family_with, threes, wrong)
        pairs = all_of((2,) * 6, 2)
        while True:
            support = own_support(pairs, maker.random.sample(worlds(pairs), 3))
            if 30 <= sum(map(len, support)) <= 32:
                words.append(self.judge(pairs, support))
                break
        whole = ((4, 4, 4), ((0, 1, 2),))
        self.refuses((TooMany, "given", 64), family_with, whole, (tuple(worlds(whole)),))
        full = ((4, 4, 2), ((0, 1), (0, 2), (1, 2)))
        self.assertEqual(self.judge(full, tuple(tuple(secs(full, context)) for context in full[1])), "family")
        self.assertEqual(set(words), {"family", "barred"})

    def test_whole_supports(self):
        for scenario in SMALL:
            support = tuple(tuple(secs(scenario, context)) for context in scenario[1])
            if sum(map(len, support)) <= 32:
                self.assertEqual(self.judge(scenario, support), "family")
        self.assertEqual(family_with(BELL, (SAME,) * 4), ("family", (LIKE,) * 4))


if __name__ == "__main__":
    unittest.main()
