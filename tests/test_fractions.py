"""[9]: the noncontextual and the contextual fraction, coverings, what is left over."""

import unittest
from fractions import Fraction

from belltables.fractions import contextual_fraction, covering, is_covering, noncontextual_fraction, rest_of
from belltables.joint import is_noncontextual
from tests.own import (
    BELL, BOX, COIN, FLAT, HALF, LARGE, LIKE, NIL, ONE, SMALL, TRIANGLE, UNLIKE, WON, Maker, any_values, frac, fracs,
    mix, own_agreed, own_family, own_sums, own_value, pair, pairs, ring, worlds)


class Fractions(unittest.TestCase):
    def judge(self, scenario, family):
        """Row and covering have the same number, so both are the best ones."""
        number, row = noncontextual_fraction(scenario, family)
        numbers = [frac(part) for part in row]
        self.assertEqual(row, pairs([numbers])[0])
        self.assertEqual(len(row), len(worlds(scenario)))
        self.assertTrue(all(part >= 0 for part in numbers))
        self.assertEqual(pair(sum(numbers)), number)
        for one, two in zip(own_family(scenario, numbers), fracs(family)):
            self.assertTrue(all(a <= b for a, b in zip(one, two)))
        cover = covering(scenario, family)
        self.assertEqual(cover, pairs(fracs(cover)))
        self.assertEqual([len(row) for row in cover], [len(row) for row in family])
        self.assertTrue(all(weight >= 0 for row in fracs(cover) for weight in row))
        self.assertGreaterEqual(min(own_sums(scenario, cover)), 1)
        self.assertEqual(pair(own_value(cover, family)), number)
        self.assertIs(is_covering(scenario, cover), True)
        self.assertEqual(contextual_fraction(scenario, family), pair(1 - frac(number)))
        self.assertIs(is_noncontextual(scenario, family), number == (1, 1))
        return frac(number)

    def judge_rest(self, scenario, family):
        """What is left over, on its own, is as told; its contextual fraction is judged by a covering of value 0."""
        rest = rest_of(scenario, family)
        number = self.judge(scenario, family)
        if number == 1:
            self.assertIsNone(rest)
            return
        self.assertTrue(own_agreed(scenario, rest))
        self.assertTrue(all(sum(row) == 1 and min(row) >= 0 for row in fracs(rest)))
        self.assertEqual(rest, pairs(fracs(rest)))
        self.assertEqual(self.judge(scenario, rest), 0)
        # The part that is not left over is noncontextual of the weight of the fraction.
        part = [[a - (1 - number) * b for a, b in zip(one, two)] for one, two in zip(fracs(family), fracs(rest))]
        self.assertTrue(all(min(row) >= 0 and sum(row) == number for row in part))
        if number > 0:
            self.assertEqual(self.judge(scenario, pairs([[a / number for a in row] for row in part])), 1)

    def test_all_kinds(self):
        maker = Maker(21)
        for scenario in SMALL + LARGE:
            for zeros in (0, 50):
                number = self.judge(scenario, maker.joint_family(scenario, 9, zeros))
                self.assertEqual(number, 1)
                family = maker.family(scenario, 9, zeros)
                number = self.judge(scenario, family)
                if not own_agreed(scenario, family):
                    self.assertLess(number, 1)

    def test_rest(self):
        maker = Maker(22)
        for scenario, box in ((BELL, BOX), (TRIANGLE, (UNLIKE,) * 3), (ring(5), (UNLIKE,) + (LIKE,) * 4),
                              (ring(6), (UNLIKE,) * 5 + (LIKE,))):
            self.assertEqual(rest_of(scenario, box), box)
            for share in (0, 1, 3, 5, 7, 9, 10):
                self.judge_rest(scenario, mix(box, maker.joint_family(scenario), Fraction(share, 10)))
        for scenario in SMALL:
            self.judge_rest(scenario, maker.joint_family(scenario))

    def test_line_to_the_box(self):
        """By hand: of Q box and 1 - Q even chances 4 Q - 2 over 2, from a half on."""
        for top in range(17):
            share = Fraction(top, 16)
            self.assertEqual(contextual_fraction(BELL, mix(BOX, FLAT, share)), pair(max(Fraction(0), 2 * share - 1)))
            self.assertEqual(contextual_fraction(BELL, mix(BOX, (LIKE,) * 4, share)), pair(share))

    def test_hair(self):
        hair = Fraction(1, 10 ** 50)
        self.assertEqual(contextual_fraction(BELL, mix(BOX, FLAT, Fraction(1, 2) + hair)), pair(2 * hair))
        self.assertEqual(rest_of(BELL, mix(BOX, FLAT, Fraction(1, 2) + hair)), BOX)
        self.assertIsNone(rest_of(BELL, mix(BOX, FLAT, Fraction(1, 2) - hair)))

    def test_mixtures(self):
        """A mixture has at most the mixture of both."""
        maker = Maker(23)
        for scenario in SMALL:
            one, two = maker.family(scenario), maker.family(scenario, 9, 40)
            share = Fraction(maker.random.randint(0, 9), 9)
            most = share * frac(contextual_fraction(scenario, one)) + (
                1 - share) * frac(contextual_fraction(scenario, two))
            self.assertLessEqual(frac(contextual_fraction(scenario, mix(one, two, share))), most)

    def test_no_possible_assignment(self):
        self.assertEqual(noncontextual_fraction(BELL, BOX), ((0, 1), (NIL,) * 16))
        self.judge(BELL, BOX)
        signalling = ((ONE, NIL, NIL, NIL),) * 3 + ((NIL, NIL, NIL, ONE),)
        self.assertEqual(self.judge(BELL, signalling), 0)

    def test_large_numbers(self):
        maker = Maker(24)
        for scenario in (BELL, TRIANGLE, LARGE[2]):
            self.judge(scenario, maker.family(scenario, 10 ** 100))
        self.judge_rest(BELL, mix(BOX, maker.joint_family(BELL, 10 ** 150), Fraction(4, 5)))


class Coverings(unittest.TestCase):
    def test_by_own_sums(self):
        maker = Maker(25)
        told = set()
        for scenario in SMALL:
            for _ in range(20):
                weights = tuple(tuple(pair(abs(frac(number)) / 4) for number in row)
                                for row in maker.weights(scenario, 9, 3))
                expected = min(own_sums(scenario, weights)) >= 1
                told.add(expected)
                self.assertIs(is_covering(scenario, weights), expected)
        self.assertEqual(told, {True, False})

    def test_edges(self):
        self.assertIs(is_covering(BELL, WON), True)
        hair = Fraction(1, 10 ** 30)
        self.assertIs(is_covering(COIN, ((ONE, ONE),)), True)
        self.assertIs(is_covering(COIN, ((pair(1 - hair), ONE),)), False)
        self.assertIs(is_covering(COIN, ((pair(1 + hair), ONE),)), True)
        self.assertIs(is_covering(((2, 2), ((0,), (1,))), ((HALF, HALF), (HALF, HALF))), True)
        self.assertIs(is_covering(((2, 2), ((0,), (1,))), (((3, 2), (3, 2)), ((-1, 2), (-1, 2)))), False)
        self.assertIs(is_covering(((2, 2), ((0,), (1,))), ((ONE, ONE), (NIL, NIL))), True)

    def test_wrong(self):
        for wrong in (list(WON), WON[:3], WON + WON[:1], WON[:3] + (list(WON[3]),), WON[:3] + (WON[3][:3],),
                      WON[:3] + (((0, 1), (2, 2), (1, 1), (0, 1)),), WON[:3] + ((NIL, (1, 0), ONE, NIL),),
                      WON[:3] + ((NIL, (-1, -1), ONE, NIL),), WON[:3] + ((NIL, (True, 1), ONE, NIL),)):
            self.assertIs(is_covering(BELL, wrong), False, wrong)
        for value in any_values():
            self.assertIs(is_covering(BELL, value), False, value)
            self.assertIs(is_covering(COIN, ((value, ONE),)), repr(value) == "(1, 1)", value)


if __name__ == "__main__":
    unittest.main()
