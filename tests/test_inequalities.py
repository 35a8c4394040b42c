"""[18] to [20]: inequalities, valid ones, facets, dimension, the normal form."""

import unittest
from fractions import Fraction
from itertools import combinations
from math import gcd

from belltables.inequalities import dimension, greatest, is_facet, is_inequality, is_valid, normal
from belltables.joint import joint_or_inequality, local_bound
from tests.own import (
    BELL, BOX, CHSH, COIN, FLAT, LARGE, NIL, ONE, PATH, SMALL, TRIANGLE, WON, Maker, any_values, flat_of, frac, fracs,
    mix, own_inner, own_sums, own_value, pair, pairs, part, ring, secs, worlds)


def nothing(scenario):
    return [[Fraction(0)] * len(secs(scenario, context)) for context in scenario[1]]


def positive(scenario, at, place):
    """That the chance of a section is from 0 on."""
    rows = nothing(scenario)
    rows[at][place] = Fraction(-1)
    return (pairs(rows), NIL)


def combined(one, two, more=Fraction(1)):
    """The sum of an inequality and another one times a number."""
    weights = [[a + more * b for a, b in zip(row, line)] for row, line in zip(fracs(one[0]), fracs(two[0]))]
    return (pairs(weights), pair(frac(one[1]) + more * frac(two[1])))


def turned(inequality):
    return (pairs([[-number for number in row] for row in fracs(inequality[0])]), pair(-frac(inequality[1])))


def own_facet(scenario, inequality):
    """Word by word as [18] and [19] tell it."""
    sums, bound = own_sums(scenario, inequality[0]), frac(inequality[1])
    if max(sums) > bound:
        return False
    met = [world for world, number in zip(worlds(scenario), sums) if number == bound]
    return len(met) < len(sums) and flat_of(scenario, met) >= len(own_inner(scenario)) - 1


def same(scenario, inequality, maker):
    """The inequality written in other ways, one after the other."""
    weights, bound = fracs(inequality[0]), frac(inequality[1])
    for _ in range(4):
        times = Fraction(maker.random.randint(1, 9), maker.random.randint(1, 9))
        weights, bound = [[number * times for number in row] for row in weights], bound * times
        yield (pairs(weights), pair(bound))
        more, at = Fraction(maker.random.randint(-9, 9), 7), maker.random.randrange(len(weights))
        weights = [[number + more * (place == at) for number in row] for place, row in enumerate(weights)]
        bound += more
        yield (pairs(weights), pair(bound))
        if len(weights) > 1:
            weights = told_by_another(scenario, weights, maker)
            yield (pairs(weights), pair(bound))


def told_by_another(scenario, weights, maker):
    """Weights of what two contexts share, told by the one and taken away from the other."""
    one, two = maker.random.sample(range(len(weights)), 2)
    lot = tuple(x for x in scenario[1][one] if x in scenario[1][two])
    numbers = {section: Fraction(maker.random.randint(-9, 9), 5) for section in secs(scenario, lot)}
    found = [list(row) for row in weights]
    for at, sign in ((one, 1), (two, -1)):
        for place, section in enumerate(secs(scenario, scenario[1][at])):
            told = dict(zip(scenario[1][at], section))
            found[at][place] += sign * numbers[tuple(told[x] for x in lot)]
    return found


class Forms(unittest.TestCase):
    def test_right(self):
        maker = Maker(51)
        for scenario in SMALL + LARGE:
            self.assertIs(is_inequality(scenario, (maker.weights(scenario), maker.number())), True)

    def test_wrong(self):
        for bound in ((2, 2), (1, 0), (1, -1), 3, None, [3, 1], (True, 1), (1, True), (3,), (3, 1, 1), "3", ("3", 1),
                      (0, 2), ((3, 1),), ()):
            self.assertIs(is_inequality(BELL, (WON, bound)), False, bound)
        for weights in (WON[:3], WON + WON[:1], list(WON), WON[:3] + (list(WON[3]),), WON[:3] + (WON[3][1:],),
                        WON[:3] + ((NIL, (2, 4), ONE, NIL),), WON[:3] + ((NIL, (1, 0), ONE, NIL),), None, (), WON[0]):
            self.assertIs(is_inequality(BELL, (weights, ONE)), False, weights)
        for wrong in ([WON, ONE], (WON,), (WON, ONE, ONE), (ONE, WON), ((WON, ONE),), {0: WON, 1: ONE}):
            self.assertIs(is_inequality(BELL, wrong), False, wrong)
        self.assertIs(is_inequality(BELL, (WON, (-7, 3))), True)
        for value in any_values():
            self.assertIs(is_inequality(BELL, value), False)
            self.assertIs(is_inequality(BELL, (value, ONE)), False)
            self.assertIs(is_inequality(BELL, (WON, value)), repr(value) in ("(0, 1)", "(1, 1)"), value)
            self.assertIs(is_inequality(COIN, (((value, ONE),), ONE)), repr(value) in ("(0, 1)", "(1, 1)"), value)


class Validity(unittest.TestCase):
    def test_greatest(self):
        maker = Maker(52)
        for scenario in SMALL + LARGE:
            for top, below in ((9, 6), (1, 1), (0, 1)):
                weights = maker.weights(scenario, top, below)
                sums = own_sums(scenario, weights)
                self.assertEqual(greatest(scenario, weights),
                                 (pair(max(sums)), worlds(scenario)[sums.index(max(sums))]))
                self.assertEqual(greatest(scenario, weights)[0], local_bound(scenario, weights))

    def test_is_valid(self):
        maker, hair = Maker(53), Fraction(1, 10 ** 40)
        for scenario in SMALL + LARGE:
            weights = maker.weights(scenario)
            best = max(own_sums(scenario, weights))
            for more, expected in ((0, True), (hair, True), (-hair, False), (1, True), (-1, False)):
                self.assertIs(is_valid(scenario, (weights, pair(best + more))), expected)
        self.assertIs(is_valid(BELL, (CHSH, (2, 1))), True)
        self.assertIs(is_valid(BELL, (CHSH, (1, 1))), False)


class Facets(unittest.TestCase):
    def judge(self, scenario, inequality, expected=None):
        told = is_facet(scenario, inequality)
        self.assertIs(told, own_facet(scenario, inequality), inequality)
        if expected is not None:
            self.assertIs(told, expected)

    def test_dimension(self):
        for scenario in SMALL + LARGE:
            self.assertEqual(dimension(scenario), len(own_inner(scenario)))
        for scenario in SMALL:
            self.assertEqual(dimension(scenario), flat_of(scenario, worlds(scenario)))
        self.assertEqual([dimension(COIN), dimension(((4,), ((0,),))), dimension(PATH), dimension(TRIANGLE)],
                         [1, 3, 5, 6])
        self.assertEqual(dimension(((2,) * 6, ((0, 1, 2, 3, 4, 5),))), 63)

    def test_chances_from_0_on(self):
        for scenario in (COIN, ((3,), ((0,),)), PATH, TRIANGLE, BELL, ((2, 3), ((0, 1),))):
            for at, context in enumerate(scenario[1]):
                for place in range(len(secs(scenario, context))):
                    facet = positive(scenario, at, place)
                    self.judge(scenario, facet, True)
                    self.judge(scenario, turned(facet), False)
                    self.judge(scenario, (facet[0], (1, 5)), False)
                    self.judge(scenario, (facet[0], (-1, 5)), False)

    def test_chsh(self):
        for inequality in ((WON, (3, 1)), (CHSH, (2, 1))):
            self.judge(BELL, inequality, True)
            self.judge(BELL, turned(inequality), False)
            self.judge(BELL, (inequality[0], pair(frac(inequality[1]) + 1)), False)
            self.judge(BELL, (inequality[0], pair(frac(inequality[1]) - 1)), False)
            for at in range(4):
                self.judge(BELL, combined(inequality, positive(BELL, at, at)), False)
                self.judge(BELL, combined(positive(BELL, 0, 0), positive(BELL, 3, at)), False)

    def test_met_by_all(self):
        for scenario in SMALL:
            rows = nothing(scenario)
            self.judge(scenario, (pairs(rows), NIL), False)
            self.judge(scenario, (pairs(rows), ONE), False)
            rows[0] = [Fraction(1)] * len(rows[0])
            self.judge(scenario, (pairs(rows), ONE), False)
            self.judge(scenario, (pairs(rows), NIL), False)

    def test_triangle(self):
        unlike = (NIL, ONE, ONE, NIL)
        self.judge(TRIANGLE, ((unlike,) * 3, (2, 1)), True)
        self.judge(TRIANGLE, ((unlike, unlike, (NIL,) * 4), (2, 1)), False)

    def test_rings(self):
        for many in (5, 6):
            scenario = ring(many)
            like, unlike = (ONE, NIL, NIL, ONE), (NIL, ONE, ONE, NIL)
            self.judge(scenario, ((unlike,) + (like,) * (many - 1), (many - 1, 1)), True)
            self.judge(scenario, ((like,) * many, (many, 1)), False)

    def test_random(self):
        maker, told = Maker(54), []
        for scenario in (BELL, TRIANGLE, PATH, ring(5), ((3, 2, 2), TRIANGLE[1]), ((2, 2, 2), ((0, 1), (2,)))):
            for _ in range(30):
                weights = maker.weights(scenario, 1, 1)
                inequality = (weights, pair(max(own_sums(scenario, weights))))
                told.append(is_facet(scenario, inequality))
                self.judge(scenario, inequality)
        self.assertEqual(set(told), {True, False})

    def test_told_inequalities(self):
        """Those that a box breaks, with the local bound: some are facets, some are not."""
        maker = Maker(55)
        for _ in range(15):
            family = mix(BOX, maker.joint_family(BELL), Fraction(9, 10))
            weights = joint_or_inequality(BELL, family)[1]
            self.judge(BELL, (weights, pair(max(own_sums(BELL, weights)))))

    def test_facets_written_otherwise(self):
        maker = Maker(56)
        for scenario, inequality in ((BELL, (CHSH, (2, 1))), (TRIANGLE, positive(TRIANGLE, 1, 2)),
                                     (BELL, combined((WON, (3, 1)), positive(BELL, 0, 0)))):
            expected = is_facet(scenario, inequality)
            for other in same(scenario, inequality, maker):
                self.judge(scenario, other, expected)

    def test_large(self):
        scenario = LARGE[1]
        self.assertIs(is_facet(scenario, positive(scenario, 3, 2)), True)
        whole = ((2,) * 6, ((0, 1, 2, 3, 4, 5),))
        self.assertIs(is_facet(whole, positive(whole, 0, 17)), True)
        self.assertIs(is_facet(whole, combined(positive(whole, 0, 17), positive(whole, 0, 18))), False)


class Normal(unittest.TestCase):
    def judge(self, scenario, inequality):
        """BOUND less the coefficients' sum is, for each assignment, one number above 0 times that of the inequality."""
        told = normal(scenario, inequality)
        self.assertIsInstance(told, tuple)
        coefficients, bound = told
        inner = own_inner(scenario)
        self.assertIsInstance(coefficients, tuple)
        self.assertEqual(len(coefficients), len(inner))
        self.assertTrue(all(type(number) is int for number in coefficients + (bound,)))
        ones = [bound - sum(number for number, (lot, section) in zip(coefficients, inner)
                            if part(world, lot) == section) for world in worlds(scenario)]
        twos = [frac(inequality[1]) - number for number in own_sums(scenario, inequality[0])]
        if not any(twos):
            self.assertEqual((set(coefficients), bound), ({0}, 0))
            return told
        at = next(place for place, number in enumerate(twos) if number)
        times = ones[at] / twos[at]
        self.assertGreater(times, 0)
        self.assertEqual(ones, [times * number for number in twos])
        self.assertEqual(gcd(bound, *coefficients), 1)
        return told

    def test_random(self):
        maker = Maker(57)
        for scenario in SMALL + LARGE:
            self.judge(scenario, (maker.weights(scenario), maker.number()))

    def test_same(self):
        maker = Maker(58)
        for scenario in SMALL + LARGE[:2]:
            for inequality in ((maker.weights(scenario), maker.number()), (pairs(nothing(scenario)), NIL),
                               positive(scenario, 0, 0)):
                told = self.judge(scenario, inequality)
                for other in same(scenario, inequality, maker):
                    self.assertEqual(normal(scenario, other), told)

    def test_unlike(self):
        maker = Maker(59)
        for scenario in SMALL:
            one = (maker.weights(scenario), maker.number())
            for two in ((one[0], pair(frac(one[1]) + 1)), turned(one), combined(one, positive(scenario, 0, 1))):
                self.assertNotEqual(normal(scenario, two), normal(scenario, one))

    def test_no_weights(self):
        for scenario in SMALL:
            rows, zeros = pairs(nothing(scenario)), (0,) * dimension(scenario)
            self.assertEqual(normal(scenario, (rows, NIL)), (zeros, 0))
            self.assertEqual(normal(scenario, (rows, (7, 3))), (zeros, 1))
            self.assertEqual(normal(scenario, (rows, (-7, 3))), (zeros, -1))

    def test_by_hand(self):
        self.assertEqual(normal(BELL, (CHSH, (2, 1))), ((-1, 1, 1, 0, 1, -1, -1, 0), 0))
        self.assertEqual(normal(COIN, (((NIL, (1, 2)),), ONE)), ((-1,), 1))
        three = ((3,), ((0,),))
        self.assertEqual(normal(three, (((ONE, (2, 1), (5, 1)),), (7, 1))), ((-4, -3), 2))
        two = ((2, 3), ((0, 1),))
        self.assertEqual(normal(two, (((ONE,) + (NIL,) * 5,), NIL)), ((0, 1, 0, 0, 0), 0))
        self.assertEqual(normal(two, (((NIL,) * 5 + (ONE,),), NIL)), ((-1, 1, 1, -1, -1), -1))

    def test_order_of_lots(self):
        """Each inner section by itself stands at its own place."""
        mixed = ((2, 2, 2, 2), ((0, 1, 2), (0, 3), (1, 3)))
        for scenario in (BELL, ((3, 2, 2), TRIANGLE[1]), ((2, 3), ((0, 1),)), mixed):
            for at, (lot, section) in enumerate(own_inner(scenario)):
                place = next(place for place, context in enumerate(scenario[1]) if set(lot) <= set(context))
                rows = nothing(scenario)
                for index, found in enumerate(secs(scenario, scenario[1][place])):
                    if part(dict(zip(scenario[1][place], found)), lot) == section:
                        rows[place][index] = Fraction(2, 3)
                zeros = [0] * dimension(scenario)
                zeros[at] = 1
                self.assertEqual(normal(scenario, (pairs(rows), NIL)), (tuple(zeros), 0))

    def test_for_families(self):
        """What the normal form tells of no-signalling families, the box too, not only of noncontextual ones."""
        coefficients, bound = normal(BELL, (WON, (3, 1)))
        self.assertEqual(3 - own_value(WON, BOX), -1)
        chances = [Fraction(1, 2) if len(lot) == 1 else frac(BOX[BELL[1].index(lot)][0]) for lot, _ in own_inner(BELL)]
        self.assertEqual(2 * (bound - sum(a * b for a, b in zip(coefficients, chances))), -1)
        self.assertEqual(3 - own_value(WON, FLAT), 1)


class Subsets(unittest.TestCase):
    def test_lots_are_counted_once(self):
        for scenario in SMALL:
            lots = {lot for context in scenario[1] for many in range(1, len(context) + 1)
                    for lot in combinations(context, many)}
            volume = 0
            for lot in lots:
                inner = 1
                for x in lot:
                    inner *= scenario[0][x] - 1
                volume += inner
            self.assertEqual(dimension(scenario), volume)


if __name__ == "__main__":
    unittest.main()
