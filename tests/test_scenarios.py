"""[6], [7]: scenarios, lots, sections, families, marginals, joint distributions, mixtures."""

import unittest
from fractions import Fraction
from itertools import combinations, product

from belltables.scenarios import (
    family_of, is_distribution, is_family, is_no_signalling, is_scenario, is_weights, marginal, mixture, sections_of)
from tests.own import (
    BELL, BOX, COIN, FLAT, HALF, LARGE, LIKE, NIL, ONE, PATH, SMALL, TRIANGLE, Maker, any_values, frac, fracs, mix,
    one_thing_wrong, own_agreed, own_family, own_marginal, pairs, point, secs, worlds)

WRONG_SCENARIOS = [
    # outcomes
    ((), ()), ((), ((),)), ((2,) * 7, ((0, 1, 2, 3, 4, 5, 6),)), ((5,), ((0,),)), ((1,), ((0,),)), ((0,), ((0,),)),
    ((-2,), ((0,),)), ((2, 1), ((0, 1),)), ((2, 5), ((0, 1),)), ((True, 2), ((0, 1),)), ((2, True), ((0, 1),)),
    (("2", 2), ((0, 1),)), ((None, 2), ((0, 1),)), ((2, (2,)), ((0, 1),)), ([2, 2], ((0, 1),)), (2, ((0,),)),
    ((3, 3, 4, 2), ((0, 1, 2, 3),)), ((4, 4, 4, 2), ((0, 1, 2, 3),)), ((3, 3, 2, 4), ((0, 1, 2, 3),)),
    ((2, 2, 2, 3, 3), ((0, 1, 2, 3, 4),)), ((4, 4, 3, 2), ((0, 1, 2, 3),)), ((2,) * 5 + (3,), ((0, 1, 2, 3, 4, 5),)),
    # contexts
    ((2, 2), ()), ((2, 2), ((0,),)), ((2, 2), ((1,),)), ((2, 2, 2), ((0, 1),)), ((2, 2, 2), ((0, 1), ())),
    ((2, 2), ((), (0, 1))), ((2, 2), ((0, 1), (0, 1))), ((2, 2), ((0,), (0, 1))), ((2, 2), ((0, 1), (1,))),
    ((2, 2), ((1, 0),)), ((2, 2), ((0, 0, 1),)), ((2, 2), ((0, 1, 1),)), ((2, 2), ((0, 2),)), ((2, 2), ((0, 1, 2),)),
    ((2, 2), ((-1, 0),)), ((2, 2), ((-2, -1), (0, 1))), ((2, 2), ((1,), (0,))), ((2, 2), ((0,), (0,), (1,))),
    ((2, 2, 2), ((1, 2), (0, 1))), ((2, 2, 2), ((0, 1), (0, 1, 2))), ((2, 2, 2), ((0, 1, 2), (1, 2))),
    ((2, 2, 2), ((0, 1, 2), (0, 2))), ((2, 2), ((False, True),)), ((2, 2), ((0, True),)), ((2, 2), ((False, 1),)),
    ((2, 2), ([0, 1],)), ((2, 2), [(0, 1)]), ((2, 2), (0, 1)), ((2, 2), ((0, 1), 1)), ((2, 2), ((0, "1"),)),
    ((2, 2), ((0, None),)), ((2, 2), (((0,), (1,)),)), ((2, 2), {(0, 1): 1}), ((2, 2), None), ((2, 2), "01"),
    # the pair
    ((2, 2),), ((2, 2), ((0, 1),), ()), [(2, 2), ((0, 1),)], (((2, 2), ((0, 1),)),), (((0, 1),), (2, 2)),
]
RIGHT_SCENARIOS = [
    ((2,) * 6, ((0, 1, 2, 3, 4, 5),)), ((4, 4, 4), ((0, 1, 2),)), ((4, 4, 2, 2), ((0, 1), (2, 3))),
    ((3, 3, 3, 2), ((0, 1, 2, 3),)), ((4,), ((0,),)), ((3,), ((0,),)), ((2,) * 6, tuple((x,) for x in range(6))),
    ((4, 4, 2, 2), ((0,), (1,), (2,), (3,))), ((2, 2, 2), ((0,), (1, 2))), ((2, 2, 2), ((0, 2), (1,))),
    ((2, 2, 2, 2), ((0, 1, 2), (0, 1, 3), (2, 3))),
]


class Scenarios(unittest.TestCase):
    def test_right(self):
        for scenario in RIGHT_SCENARIOS + SMALL + LARGE:
            self.assertIs(is_scenario(scenario), True, scenario)

    def test_random(self):
        maker = Maker(1)
        for _ in range(200):
            self.assertIs(is_scenario(maker.scenario(maker.random.randint(1, 5))), True)

    def test_wrong_in_one_thing(self):
        for scenario in WRONG_SCENARIOS:
            self.assertIs(is_scenario(scenario), False, scenario)

    def test_sizes(self):
        for many in range(1, 8):
            for sizes in product((1, 2, 3, 4, 5), repeat=many) if many < 6 else [(2,) * many, (3,) + (2,) * (many - 1)]:
                volume = 1
                for size in sizes:
                    volume *= size
                is_right = many <= 6 and min(sizes) >= 2 and max(sizes) <= 4 and volume <= 64
                self.assertIs(is_scenario((sizes, (tuple(range(many)),))), is_right, sizes)

    def test_contexts(self):
        """All tuples of contexts of three observables, beside the test's own look at them."""
        lots = [lot for many in range(4) for lot in combinations(range(3), many)]
        for many in range(5):
            for contexts in product(lots, repeat=many):
                is_right = list(contexts) == sorted(set(contexts)) and set().union(*contexts) == {0, 1, 2} and (
                    not any(set(one) <= set(two) for one in contexts for two in contexts if one != two))
                self.assertIs(is_scenario(((2, 2, 2), contexts)), is_right, contexts)

    def test_any_value(self):
        for value in any_values():
            self.assertIs(is_scenario(value), False, value)
            self.assertIs(is_scenario((value, ((0, 1),))), value == (2, 2), value)
            self.assertIs(is_scenario(((2, 2), value)), False, value)
            self.assertIs(is_scenario(((2, 2), (value,))), type(value) is tuple and repr(value) == "(0, 1)", value)
            self.assertIs(is_scenario(((2, 2), ((0, value),))), value is not True and value == 1, value)
            self.assertIs(is_scenario(((2, value), ((0, 1),))), type(value) is int and value == 2, value)


class Sections(unittest.TestCase):
    def test_of_every_lot(self):
        for scenario in SMALL + LARGE[-3:]:
            for many in range(len(scenario[0]) + 1):
                for lot in combinations(range(len(scenario[0])), many):
                    self.assertEqual(sections_of(scenario, lot), tuple(secs(scenario, lot)))
        self.assertEqual(sections_of(BELL, ()), ((),))
        self.assertEqual(sections_of(((3, 2), ((0,), (1,))), (0, 1))[:3], ((0, 0), (0, 1), (1, 0)))


class Families(unittest.TestCase):
    def test_right(self):
        maker = Maker(2)
        for scenario in SMALL + LARGE:
            for zeros in (0, 60):
                self.assertIs(is_family(scenario, maker.family(scenario, 9, zeros)), True)
                self.assertIs(is_distribution(scenario, maker.distribution(scenario, 9, zeros)), True)
                self.assertIs(is_weights(scenario, maker.weights(scenario)), True)
                self.assertIs(is_weights(scenario, maker.family(scenario)), True)

    def test_wrong_row(self):
        for scenario, right in ((BELL, BOX), (COIN, ((HALF, HALF),)), (PATH, ((HALF, HALF, NIL, NIL), LIKE))):
            self.assertIs(is_family(scenario, right), True)
            for at in range(len(right)):
                for row in one_thing_wrong(right[at]):
                    self.assertIs(is_family(scenario, right[:at] + (row,) + right[at + 1:]), False, row)

    def test_wrong_around(self):
        for wrong in (BOX[:3], BOX + (LIKE,), list(BOX), (BOX,), (), None, dict(enumerate(BOX)), "bell", BOX[0]):
            self.assertIs(is_family(BELL, wrong), False, wrong)
            self.assertIs(is_weights(BELL, wrong), False, wrong)
        self.assertIs(is_family(COIN, ()), False)
        self.assertIs(is_family(COIN, (HALF, HALF)), False)
        self.assertIs(is_weights(COIN, (HALF, HALF)), False)

    def test_wrong_distribution(self):
        right = (HALF,) + (NIL,) * 6 + (HALF,)
        self.assertIs(is_distribution(PATH, right), True)
        for wrong in one_thing_wrong(right):
            self.assertIs(is_distribution(PATH, wrong), False, wrong)
        self.assertIs(is_distribution(COIN, ((HALF, HALF),)), False)
        self.assertIs(is_distribution(BELL, (ONE,)), False)

    def test_wrong_weights(self):
        right = ((-3, 2), NIL, (7, 1), ONE)
        self.assertIs(is_weights(BELL, (right,) * 4), True)
        wrongs = [list(right), right[1:], right + (NIL,), ((-6, 4),) + right[1:], ((3, -2),) + right[1:],
                  ((3, 0),) + right[1:], (3,) + right[1:], ([3, 2],) + right[1:], ((True, 2),) + right[1:],
                  ((3, True),) + right[1:], ((0, 2),) + right[1:], ("3/2",) + right[1:], (None,) + right[1:],
                  ((3, 2, 1),) + right[1:], ((3,),) + right[1:], (((3,), 2),) + right[1:]]
        for wrong in wrongs:
            for at in range(4):
                self.assertIs(is_weights(BELL, (right,) * at + (wrong,) + (right,) * (3 - at)), False, wrong)

    def test_any_value(self):
        for value in any_values():
            self.assertIs(is_family(BELL, value), False, value)
            self.assertIs(is_distribution(BELL, value), False, value)
            self.assertIs(is_weights(BELL, value), False, value)
            is_row = repr(value) == "((0, 1), (1, 1))"
            self.assertIs(is_family(COIN, (value,)), is_row, value)
            self.assertIs(is_distribution(COIN, value), is_row, value)
            is_fraction = repr(value) in ("(0, 1)", "(1, 1)")
            self.assertIs(is_weights(COIN, ((value, NIL),)), is_fraction, value)
            self.assertIs(is_family(COIN, ((value, NIL),)), repr(value) == "(1, 1)", value)
            self.assertIs(is_distribution(COIN, ((1, 2), (1, value))), type(value) is int and value == 2, value)

    def test_large_numbers(self):
        big = 10 ** 399
        row = ((1, big), (big - 1, big))
        self.assertIs(is_family(COIN, (row,)), True)
        self.assertIs(is_family(COIN, (((1, big), (big - 2, big)),)), False)
        self.assertIs(is_family(COIN, (((1, big + 1), (big - 1, big)),)), False)
        self.assertEqual(mixture(COIN, (row,), (row,), (1, big)), (row,))


class Marginals(unittest.TestCase):
    def test_every_lot_within(self):
        maker = Maker(3)
        for scenario in SMALL + LARGE[-3:]:
            family = maker.family(scenario, 9, 20)
            for at, context in enumerate(scenario[1]):
                for many in range(len(context) + 1):
                    for lot in combinations(context, many):
                        expected = pairs([own_marginal(scenario, family[at], context, lot)])[0]
                        self.assertEqual(marginal(scenario, family, at, lot), expected)
                self.assertEqual(marginal(scenario, family, at, ()), (ONE,))
                self.assertEqual(marginal(scenario, family, at, context), family[at])

    def test_no_signalling(self):
        maker = Maker(4)
        told = set()
        for scenario in SMALL + LARGE:
            for family in (maker.family(scenario), maker.family(scenario, 1, 50), maker.joint_family(scenario),
                           maker.joint_family(scenario, 3, 80)):
                expected = own_agreed(scenario, family)
                told.add(expected)
                self.assertIs(is_no_signalling(scenario, family), expected)
        self.assertEqual(told, {True, False})

    def test_only_the_last_two_disagree(self):
        """The one disagreement may be anywhere."""
        for scenario in (BELL, TRIANGLE, LARGE[1], LARGE[2]):
            flat = point(scenario, worlds(scenario)[0])
            self.assertIs(is_no_signalling(scenario, flat), True)
            for at, context in enumerate(scenario[1]):
                row = (NIL,) * (len(secs(scenario, context)) - 1) + (ONE,)
                self.assertIs(is_no_signalling(scenario, flat[:at] + (row,) + flat[at + 1:]), False)

    def test_apart(self):
        """Contexts that share nothing can't disagree."""
        scenario = ((2, 2, 3), ((0, 1), (2,)))
        maker = Maker(5)
        for _ in range(5):
            self.assertIs(is_no_signalling(scenario, maker.family(scenario)), True)


class JointFamilies(unittest.TestCase):
    def test_family_of(self):
        maker = Maker(6)
        for scenario in SMALL + LARGE:
            for zeros in (0, 80):
                distribution = maker.distribution(scenario, 9, zeros)
                family = family_of(scenario, distribution)
                self.assertEqual(family, pairs(own_family(scenario, [frac(number) for number in distribution])))
                self.assertIs(is_family(scenario, family), True)
                self.assertTrue(own_agreed(scenario, family))
            self.assertEqual(family_of(scenario, (ONE,) + (NIL,) * (len(worlds(scenario)) - 1)),
                             point(scenario, (0,) * len(scenario[0])))

    def test_one_context(self):
        scenario = ((2, 3), ((0, 1),))
        distribution = Maker(7).distribution(scenario)
        self.assertEqual(family_of(scenario, distribution), (distribution,))


class Mixtures(unittest.TestCase):
    def test_mixture(self):
        maker = Maker(8)
        for scenario in SMALL:
            one, two = maker.family(scenario), maker.family(scenario, 9, 40)
            for share in (Fraction(0), Fraction(1), Fraction(1, 2), Fraction(3, 7), Fraction(1, 10 ** 40)):
                told = mixture(scenario, one, two, (share.numerator, share.denominator))
                self.assertEqual(told, mix(one, two, share))
                self.assertIs(is_family(scenario, told), True)
            self.assertEqual(mixture(scenario, one, two, (1, 1)), one)
            self.assertEqual(mixture(scenario, one, two, (0, 1)), two)

    def test_box(self):
        self.assertEqual(fracs(mixture(BELL, BOX, FLAT, (3, 4)))[3], [Fraction(n, 16) for n in (1, 7, 7, 1)])


if __name__ == "__main__":
    unittest.main()
