"""[21]: relabellings, what they lead, equivalent inequalities, the canonical form."""

import unittest
from fractions import Fraction

from belltables.errors import InvalidRelabelling, TooMany
from belltables.fractions import contextual_fraction
from belltables.inequalities import is_facet, is_valid, normal
from belltables.relabellings import between, canonical, led_family, led_inequality, relabellings
from tests.harness import Case
from tests.own import (
    BELL, BOX, CHSH, COIN, HALF, NIL, ONE, PATH, SMALL, TRIANGLE, WON, Maker, all_of, any_values, frac, mix,
    own_agreed, own_led, own_relabellings, own_sums, own_value, pair, ring)

FEW = [scenario for scenario in SMALL if len(own_relabellings(scenario)) <= 400]


class Listing(Case):
    def test_all(self):
        for scenario in SMALL:
            found = own_relabellings(scenario)
            if len(found) <= 5000:
                told = relabellings(scenario)
                self.assertIsInstance(told, tuple)
                self.assertEqual(list(told), found)
                self.assertEqual(list(told), sorted(told))
                same = (tuple(range(len(scenario[0]))), tuple(tuple(range(size)) for size in scenario[0]))
                self.assertIn(same, told)
                self.assertEqual(told[0], same)

    def test_known(self):
        self.assertEqual(relabellings(COIN), (((0,), ((0, 1),)), ((0,), ((1, 0),))))
        self.assertEqual([len(relabellings(scenario)) for scenario in (BELL, TRIANGLE, PATH, ring(5), ring(6))],
                         [128, 48, 16, 320, 768])
        self.assertEqual(len(relabellings(all_of((2,) * 5, 4))), 3840)

    def test_too_many(self):
        for scenario, many in ((((4, 3, 4), ((0, 1), (1, 2))), 6912), (((4, 4, 4), ((0, 1, 2),)), 82944),
                               (((2,) * 6, ((0, 1, 2, 3, 4, 5),)), 46080), (((4, 4, 2, 2), ((0, 1), (2, 3))), 9216)):
            told = (TooMany, "given", many)
            rows = tuple((NIL,) * len(row) for row in Maker(60).family(scenario))
            self.refuses(told, relabellings, scenario)
            self.refuses(told, canonical, scenario, (rows, ONE))
            self.refuses(told, between, scenario, (rows, ONE), (rows, NIL))
        # 5000 is no product of such numbers: the greatest below and the least above that come about.
        self.assertEqual(len(relabellings(((4, 4, 2), ((0, 2), (1,))))), 1152)
        self.assertEqual(len(relabellings(((2,) * 6, ((0, 1, 2, 3), (4, 5))))), 48 * 64)


class Leading(Case):
    def test_families(self):
        maker = Maker(61)
        for scenario in SMALL:
            family = maker.joint_family(scenario)
            found = own_relabellings(scenario)
            for relabelling in maker.random.sample(found, min(len(found), 30)):
                told = led_family(scenario, relabelling, family)
                self.assertEqual(told, own_led(scenario, relabelling, family))
                self.assertTrue(own_agreed(scenario, told))

    def test_inequalities(self):
        maker = Maker(62)
        for scenario in SMALL:
            weights, bound, family = maker.weights(scenario), maker.number(), maker.joint_family(scenario)
            found = own_relabellings(scenario)
            for relabelling in maker.random.sample(found, min(len(found), 30)):
                led, told = led_inequality(scenario, relabelling, (weights, bound))
                self.assertEqual((led, told), (own_led(scenario, relabelling, weights), bound))
                self.assertEqual(own_value(led, led_family(scenario, relabelling, family)),
                                 own_value(weights, family))

    def test_by_hand(self):
        first, last = ((0,), ((0, 1),)), ((0,), ((1, 0),))
        self.assertEqual(led_family(COIN, first, (((1, 3), (2, 3)),)), (((1, 3), (2, 3)),))
        self.assertEqual(led_family(COIN, last, (((1, 3), (2, 3)),)), (((2, 3), (1, 3)),))
        three = ((3,), ((0,),))
        # The outcomes 0, 1, 2 are called 1, 2, 0.
        self.assertEqual(led_family(three, ((0,), ((1, 2, 0),)), (((1, 2), (1, 3), (1, 6)),)),
                         (((1, 6), (1, 2), (1, 3)),))
        # The ends of a path exchanged.
        self.assertEqual(led_family(PATH, ((2, 1, 0), ((0, 1),) * 3), ((NIL, HALF, NIL, HALF), (NIL, NIL, NIL, ONE))),
                         ((NIL, NIL, NIL, ONE), (NIL, NIL, HALF, HALF)))
        # Observables 0, 1, 2 are called 1, 2, 0.
        rows = ((ONE, (2, 1), (3, 1), (4, 1)), ((5, 1), (6, 1), (7, 1), (8, 1)), ((9, 1), (10, 1), (11, 1), (12, 1)))
        self.assertEqual(led_inequality(TRIANGLE, ((1, 2, 0), ((0, 1), (0, 1), (1, 0))), (rows, ONE))[0],
                         (((6, 1), (8, 1), (5, 1), (7, 1)), ((10, 1), (12, 1), (9, 1), (11, 1)), rows[0]))

    def test_the_same_stays(self):
        maker = Maker(63)
        family = mix(BOX, maker.joint_family(BELL), Fraction(4, 5))
        number = contextual_fraction(BELL, family)
        for relabelling in own_relabellings(BELL)[::7]:
            self.assertEqual(contextual_fraction(BELL, led_family(BELL, relabelling, family)), number)
            led = led_inequality(BELL, relabelling, (WON, (3, 1)))
            self.assertIs(is_facet(BELL, led), True)
            self.assertIs(is_valid(BELL, led), True)

    def test_wrong_in_one_thing(self):
        right = ((2, 3, 0, 1), ((1, 0),) * 4)
        led_family(BELL, right, BOX)
        order, turns = right
        wrongs = [list(right), right + ((),), (order,), (turns, order), (list(order), turns), (order, list(turns)),
                  (order[:3], turns), (order + (4,), turns), ((0, 0, 2, 3), turns), ((1, 2, 3, 4), turns),
                  ((-1, 0, 1, 2), turns), ((False, True, 2, 3), turns), ((0, True, 2, 3), turns), ((2, 0, 1, 3), turns),
                  ((0, 2, 1, 3), turns), ((0, 1, "2", 3), turns), ((0, 1, (2,), 3), turns), (None, turns),
                  (order, turns[:3]), (order, turns + ((0, 1),)), (order, ((0, 0),) + turns[1:]),
                  (order, ((0, 1, 2),) + turns[1:]), (order, ((0,),) + turns[1:]), (order, ([0, 1],) + turns[1:]),
                  (order, ((0, True),) + turns[1:]), (order, ((False, 1),) + turns[1:]), (order, ((1, 2),) + turns[1:]),
                  (order, ((-1, 0),) + turns[1:]), (order, ((0, "1"),) + turns[1:]), (order, (None,) + turns[1:]),
                  (order, (1, 0)), (order, None), (right,)]
        for wrong in wrongs + any_values():
            self.refuses((InvalidRelabelling, "given", wrong), led_family, BELL, wrong, BOX)
            self.refuses((InvalidRelabelling, "given", wrong), led_inequality, BELL, wrong, (WON, ONE))
        sizes = ((2, 3, 2), ((0, 1), (1, 2)))
        for wrong in (((1, 0, 2), ((0, 1), (0, 1, 2), (0, 1))), ((0, 1, 2), ((0, 1, 2), (0, 1), (0, 1))),
                      ((0, 1, 2), ((0, 1), (0, 2, 2), (0, 1)))):
            self.refuses((InvalidRelabelling, "given", wrong), led_inequality, sizes,
                         wrong, (((NIL,) * 6,) * 2, ONE))


class Equivalent(unittest.TestCase):
    def own_canonical(self, scenario, inequality):
        return min(normal(scenario, (own_led(scenario, relabelling, inequality[0]), inequality[1]))
                   for relabelling in own_relabellings(scenario))

    def test_canonical(self):
        maker = Maker(64)
        for scenario in FEW:
            for top in (1, 9):
                one = (maker.weights(scenario, top), maker.number())
                told = canonical(scenario, one)
                self.assertEqual(told, self.own_canonical(scenario, one))
                relabelling = maker.random.choice(own_relabellings(scenario))
                self.assertEqual(canonical(scenario, led_inequality(scenario, relabelling, one)), told)
                other = (maker.weights(scenario, top), maker.number())
                self.assertIs(canonical(scenario, other) == told, between(scenario, one, other) is not None)

    def test_between_is_the_first(self):
        maker = Maker(65)
        for scenario in FEW:
            for top in (0, 1, 2):
                one = (maker.weights(scenario, top, 1), maker.number())
                relabelling = maker.random.choice(own_relabellings(scenario))
                two = led_inequality(scenario, relabelling, one)
                wanted = normal(scenario, two)
                first = next(each for each in own_relabellings(scenario)
                             if normal(scenario, (own_led(scenario, each, one[0]), one[1])) == wanted)
                self.assertEqual(between(scenario, one, two), first)
                times = (tuple(tuple(pair(3 * frac(number)) for number in row) for row in two[0]),
                         pair(3 * frac(two[1])))
                self.assertEqual(between(scenario, one, times), first)

    def test_none(self):
        same = relabelling_of(BELL)
        self.assertEqual(between(BELL, (WON, (3, 1)), (WON, (3, 1))), same)
        self.assertEqual(between(BELL, (WON, (3, 1)), (CHSH, (2, 1))), same)
        self.assertIsNone(between(BELL, (WON, (3, 1)), (WON, (4, 1))))
        chance = (((-1, 1), NIL, NIL, NIL),) + ((NIL,) * 4,) * 3
        self.assertIsNone(between(BELL, (WON, (3, 1)), (chance, NIL)))
        self.assertNotEqual(canonical(BELL, (WON, (3, 1))), canonical(BELL, (chance, NIL)))

    def test_eight_of_chsh(self):
        """The unlike rule may stand at any context, and all may be turned: eight of them, all equivalent."""
        like, unlike = (ONE, NIL, NIL, ONE), (NIL, ONE, ONE, NIL)
        told, normals = set(), set()
        for odd in range(16):
            rows = tuple(unlike if odd >> at & 1 else like for at in range(4))
            if bin(odd).count("1") % 2:
                self.assertEqual(max(own_sums(BELL, rows)), 3)
                told.add(canonical(BELL, (rows, (3, 1))))
                normals.add(normal(BELL, (rows, (3, 1))))
        self.assertEqual((len(told), len(normals)), (1, 8))
        self.assertEqual(told, {min(normals)})

    def test_zero(self):
        for scenario in FEW:
            rows = tuple((NIL,) * len(row) for row in Maker(66).family(scenario))
            self.assertEqual(canonical(scenario, (rows, NIL)), normal(scenario, (rows, NIL)))
            self.assertEqual(between(scenario, (rows, NIL), (rows, NIL)), relabellings(scenario)[0])


def relabelling_of(scenario):
    """The one that changes nothing."""
    return (tuple(range(len(scenario[0]))), tuple(tuple(range(size)) for size in scenario[0]))


if __name__ == "__main__":
    unittest.main()
