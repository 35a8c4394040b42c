"""[8]: a joint distribution, or an inequality; value and local bound."""

import unittest
from fractions import Fraction

from belltables.joint import is_noncontextual, joint_or_inequality, local_bound, value
from tests.own import (
    BELL, BOX, CHSH, COIN, FLAT, LARGE, LIKE, SMALL, TRIANGLE, UNLIKE, Maker, frac, mix, own_agreed, own_family,
    own_sums, own_value, pair, pairs, point, ring, worlds)

HAIR = Fraction(1, 10 ** 30)


class Values(unittest.TestCase):
    def test_value_and_bound(self):
        maker = Maker(11)
        for scenario in SMALL + LARGE:
            for top, below in ((9, 6), (1, 1), (10 ** 20, 10 ** 20)):
                weights, family = maker.weights(scenario, top, below), maker.family(scenario, 9, 30)
                self.assertEqual(value(scenario, weights, family), pair(own_value(weights, family)))
                self.assertEqual(local_bound(scenario, weights), pair(max(own_sums(scenario, weights))))

    def test_all_below_zero(self):
        maker = Maker(12)
        for scenario in SMALL:
            weights = tuple(tuple(pair(-abs(frac(number)) - Fraction(1, 3)) for number in row)
                            for row in maker.weights(scenario))
            bound = local_bound(scenario, weights)
            self.assertLess(bound[0], 0)
            self.assertEqual(bound, pair(max(own_sums(scenario, weights))))

    def test_point_has_its_sum(self):
        weights = Maker(13).weights(BELL)
        for world, number in zip(worlds(BELL), own_sums(BELL, weights)):
            self.assertEqual(value(BELL, weights, point(BELL, world)), pair(number))


class JointOrInequality(unittest.TestCase):
    def judge(self, scenario, family, expected=None):
        """What is told is right by the test's own sums; so the other thing can't be."""
        told = joint_or_inequality(scenario, family)
        self.assertIsInstance(told, tuple)
        self.assertEqual(len(told), 2)
        if told[0] == "joint":
            numbers = [frac(number) for number in told[1]]
            self.assertTrue(all(number >= 0 for number in numbers))
            self.assertEqual(told[1], pairs([numbers])[0])
            self.assertEqual(len(numbers), len(worlds(scenario)))
            self.assertEqual(pairs(own_family(scenario, numbers)), family)
        else:
            self.assertEqual(told[0], "inequality")
            self.assertEqual(tuple(len(row) for row in told[1]), tuple(len(row) for row in family))
            self.assertEqual(told[1], pairs([[frac(number) for number in row] for row in told[1]]))
            self.assertGreater(own_value(told[1], family), max(own_sums(scenario, told[1])))
        self.assertIs(is_noncontextual(scenario, family), told[0] == "joint")
        if expected is not None:
            self.assertEqual(told[0], expected)
        return told[0]

    def test_joint_ones(self):
        maker = Maker(14)
        for scenario in SMALL + LARGE:
            for zeros in (0, 50, 90):
                self.judge(scenario, maker.joint_family(scenario, 9, zeros), "joint")
            self.judge(scenario, point(scenario, worlds(scenario)[-1]), "joint")

    def test_signalling_ones(self):
        maker = Maker(15)
        for scenario in SMALL + LARGE:
            for zeros in (0, 50):
                family = maker.family(scenario, 9, zeros)
                self.judge(scenario, family, None if own_agreed(scenario, family) else "inequality")

    def test_box_and_mixtures(self):
        for share, expected in ((Fraction(1, 2), "joint"), (Fraction(1, 2) + HAIR, "inequality"),
                                (Fraction(1, 2) - HAIR, "joint"), (Fraction(1), "inequality"), (Fraction(0), "joint")):
            self.judge(BELL, mix(BOX, FLAT, share), expected)
        # With alike tables: 4 and 2 by the weights, the bound is 2.
        self.judge(BELL, mix(BOX, (LIKE,) * 4, HAIR), "inequality")
        self.judge(BELL, (LIKE,) * 4, "joint")

    def test_triangle(self):
        unlike, flat = (UNLIKE,) * 3, FLAT[:3]
        # Of three pairs two can be unlike: 3 q + 3 / 2 (1 - q) is 2 for q a third.
        for share, expected in ((Fraction(1, 3), "joint"), (Fraction(1, 3) + HAIR, "inequality"),
                                (Fraction(1, 3) - HAIR, "joint"), (Fraction(1), "inequality")):
            self.judge(TRIANGLE, mix(unlike, flat, share), expected)
        self.judge(TRIANGLE, (LIKE, LIKE, UNLIKE), "inequality")
        self.judge(TRIANGLE, (LIKE, UNLIKE, UNLIKE), "joint")

    def test_rings(self):
        for many in (4, 5, 6):
            scenario = ring(many)
            for odd in range(many + 1):
                family = (UNLIKE,) * odd + (LIKE,) * (many - odd)
                self.judge(scenario, family, "inequality" if odd % 2 else "joint")

    def test_random_mixtures(self):
        """Families of a box and of joint ones, near the edge: what is told is judged, whichever it is."""
        maker, told = Maker(16), set()
        for _ in range(60):
            share = Fraction(maker.random.randint(20, 80), 100)
            told.add(self.judge(BELL, mix(BOX, maker.joint_family(BELL), share)))
        self.assertEqual(told, {"joint", "inequality"})

    def test_edge_by_an_inequality(self):
        """On the line from a joint family to the box the edge is where some told inequality is met."""
        maker = Maker(17)
        for _ in range(10):
            inside = maker.joint_family(BELL)
            high, family = Fraction(1), BOX
            while True:
                told = joint_or_inequality(BELL, family)
                if told[0] == "joint":
                    break
                bound = max(own_sums(BELL, told[1]))
                one, two = own_value(told[1], inside), own_value(told[1], BOX)
                high = (bound - one) / (two - one)
                family = mix(BOX, inside, high)
            self.judge(BELL, mix(BOX, inside, high), "joint")
            self.judge(BELL, mix(BOX, inside, high + HAIR), "inequality")

    def test_coin(self):
        for top in range(8):
            row = pairs([[Fraction(top, 7), Fraction(7 - top, 7)]])
            self.assertEqual(joint_or_inequality(COIN, row), ("joint", row[0]))

    def test_large_numbers(self):
        maker = Maker(18)
        for scenario in (BELL, TRIANGLE, LARGE[0]):
            big = maker.joint_family(scenario, 10 ** 200)
            self.judge(scenario, big, "joint")
            self.judge(scenario, maker.family(scenario, 10 ** 200))

    def test_chsh(self):
        self.assertEqual([local_bound(BELL, CHSH), value(BELL, CHSH, FLAT)], [(2, 1), (0, 1)])


if __name__ == "__main__":
    unittest.main()
