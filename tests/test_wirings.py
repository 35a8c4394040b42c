"""[22] to [24]: measuring trees, wirings, wired families, scenarios and families side by side."""

import unittest
from fractions import Fraction
from itertools import product

from belltables.errors import InvalidScenario, NotAgreed
from belltables.fractions import contextual_fraction, noncontextual_fraction
from belltables.relabellings import led_family
from belltables.scenarios import is_family, is_no_signalling, is_scenario, mixture
from belltables.wirings import beside, beside_families, is_wiring, wired
from tests.harness import Case
from tests.own import (
    BELL, BOX, COIN, FLAT, LIKE, NIL, ONE, PATH, SMALL, TRIANGLE, UNLIKE, Maker, all_of, any_values, bent, frac,
    is_int, mix, own_agreed, own_family, own_marginal, own_relabellings, pair, pairs, point, ring, secs, worlds)

FIRST, THEN = ("tell", 0), ("tell", 1)
CHASE = ("measure", 0, (("measure", 2, (FIRST, THEN)), ("measure", 3, (THEN, FIRST))))
THREES = all_of((2, 2, 2, 2), 3)
PAIR = ((2, 2), ((0, 1),))
APART = ((2, 2), ((0,), (1,)))
SIMPLEX_BOX = (UNLIKE,) * 3


def own_is_tree(scenario, many, value, ahead=()):
    if type(value) is not tuple or not value or type(value[0]) is not str:
        return False
    if value[0] == "tell":
        return len(value) == 2 and is_int(value[1]) and 0 <= value[1] < many
    if value[0] != "measure" or len(value) != 3 or len(ahead) == 3:
        return False
    x, trees = value[1], value[2]
    if not is_int(x) or not 0 <= x < len(scenario[0]) or x in ahead:
        return False
    return type(trees) is tuple and len(trees) == scenario[0][x] and all(
        own_is_tree(scenario, many, tree, ahead + (x,)) for tree in trees)


def ways(tree):
    """The ways through a tree: what is told, and the outcomes of what is measured."""
    if tree[0] == "tell":
        return [(tree[1], {})]
    return [(told, {**measured, tree[1]: outcome}) for outcome, inside in enumerate(tree[2])
            for told, measured in ways(inside)]


def joined(choice):
    """What several ways measure together; None if they do not come out alike."""
    table = {}
    for _, measured in choice:
        for x, outcome in measured.items():
            if table.setdefault(x, outcome) != outcome:
                return None
    return table


def own_is_wiring(scenario, other, value):
    if type(value) is not tuple or len(value) != len(other[0]):
        return False
    if not all(own_is_tree(scenario, many, tree) for many, tree in zip(other[0], value)):
        return False
    for context in other[1]:
        for choice in product(*(ways(value[x]) for x in context)):
            table = joined(choice)
            if table is not None and not any(set(table) <= set(inside) for inside in scenario[1]):
                return False
    return True


def own_wired(scenario, other, wiring, family):
    rows = []
    for context in other[1]:
        sums = {section: Fraction(0) for section in secs(other, context)}
        for choice in product(*(ways(wiring[x]) for x in context)):
            table = joined(choice)
            if table is None:
                continue
            lot = tuple(sorted(table))
            at = next(at for at, inside in enumerate(scenario[1]) if set(lot) <= set(inside))
            numbers = dict(zip(secs(scenario, lot), own_marginal(scenario, family[at], scenario[1][at], lot)))
            sums[tuple(told for told, _ in choice)] += numbers[tuple(table[x] for x in lot)]
        rows.append(list(sums.values()))
    return pairs(rows)


def drawn_tree(maker, scenario, many, within, deep=3):
    """Some tree whose measurings all lie in one of the lots."""
    draw = maker.random
    choices = sorted({x for lot in within for x in lot})
    if deep == 0 or not choices or draw.random() < 0.2:
        return ("tell", draw.randrange(many))
    x = draw.choice(choices)
    left = [tuple(y for y in lot if y != x) for lot in within if x in lot]
    return ("measure", x, tuple(drawn_tree(maker, scenario, many, left, deep - 1) for _ in range(scenario[0][x])))


def drawn_wirings(maker, scenario, other, many):
    """Values like wirings, right and wrong ones."""
    found = []
    for _ in range(many):
        within = scenario[1] if maker.random.random() < 0.5 else [maker.random.choice(scenario[1])]
        found.append(tuple(drawn_tree(maker, scenario, size, within) for size in other[0]))
    return found


def drawn_families(maker, scenario):
    """No-signalling families: of joint distributions, and parts of boxes where there are some."""
    families = [maker.joint_family(scenario, 9, zeros) for zeros in (0, 70)]
    if scenario == BELL:
        families += [BOX, mix(BOX, families[0], Fraction(2, 3))]
    if scenario == TRIANGLE:
        families += [SIMPLEX_BOX, mix(SIMPLEX_BOX, families[1], Fraction(1, 2))]
    return families


OTHERS = [COIN, PAIR, APART, PATH, TRIANGLE, BELL, ((3,), ((0,),)), ((3, 2), ((0, 1),)), ((4, 2), ((0,), (1,)))]
SOURCES = [COIN, PATH, BELL, TRIANGLE, THREES, ((3, 2, 2), ((0, 1), (0, 2), (1, 2))), ((2, 3, 2), ((0, 1), (1, 2)))]


class Forms(Case):
    def test_depths(self):
        self.assertIs(is_wiring(BELL, COIN, (FIRST,)), True)
        self.assertIs(is_wiring(BELL, COIN, (("measure", 3, (FIRST, THEN)),)), True)
        self.assertIs(is_wiring(BELL, COIN, (CHASE,)), True)
        four = ((2,) * 4, ((0, 1, 2, 3),))
        tree = FIRST
        for deep, x in enumerate((3, 1, 0, 2), 1):
            tree = ("measure", x, (THEN, tree))
            self.assertIs(is_wiring(four, COIN, (tree,)), deep <= 3, tree)
            self.assertIs(is_wiring(four, COIN, (("measure", 0, (tree, tree)),)), deep <= 2, tree)

    def test_twice_on_a_way(self):
        for deep in (("measure", 0, (FIRST, THEN)), ("measure", 2, (FIRST, ("measure", 0, (FIRST, THEN))))):
            self.assertIs(is_wiring(BELL, COIN, (("measure", 0, (FIRST, deep)),)), False)
        self.assertIs(is_wiring(BELL, COIN, (("measure", 0, (("measure", 2, (FIRST, THEN)),) * 2),)), True)

    def test_bounds(self):
        for outcome, is_right in ((0, True), (1, True), (2, False), (-1, False), (True, False), ("0", False)):
            self.assertIs(is_wiring(BELL, COIN, (("tell", outcome),)), is_right)
        self.assertIs(is_wiring(BELL, ((3,), ((0,),)), (("tell", 2),)), True)
        for x, is_right in ((0, True), (3, True), (4, False), (-1, False), (True, False), (None, False)):
            self.assertIs(is_wiring(BELL, COIN, (("measure", x, (FIRST, THEN)),)), is_right)
        for trees in ((FIRST,), (FIRST, THEN, FIRST), [FIRST, THEN], (), None, (FIRST, 1), FIRST):
            self.assertIs(is_wiring(BELL, COIN, (("measure", 1, trees),)), False)
        self.assertIs(is_wiring(((3,), ((0,),)), COIN, (("measure", 0, (FIRST, THEN, THEN)),)), True)

    def test_together(self):
        """0 and 1 lie in no context, nor do 2 and 3."""
        one = [("measure", x, (FIRST, THEN)) for x in range(4)]
        for x in range(4):
            for y in range(4):
                is_right = x == y or (min(x, y), max(x, y)) in BELL[1]
                self.assertIs(is_wiring(BELL, PAIR, (one[x], one[y])), is_right)
                self.assertIs(is_wiring(BELL, APART, (one[x], one[y])), True)
                self.assertIs(is_wiring(BELL, COIN, (("measure", x, (FIRST, one[y])),)), is_right and x != y)

    def test_ways_that_come_out_alike(self):
        # 2 and 3 are measured on ways on which 0 comes out in two ways, or alike.
        apart = (("measure", 0, (("measure", 2, (FIRST, THEN)), FIRST)),
                 ("measure", 0, (FIRST, ("measure", 3, (FIRST, THEN)))))
        alike = (("measure", 0, (("measure", 2, (FIRST, THEN)), FIRST)),
                 ("measure", 0, (("measure", 3, (FIRST, THEN)), FIRST)))
        self.assertIs(is_wiring(BELL, PAIR, apart), True)
        self.assertIs(is_wiring(BELL, PAIR, alike), False)
        self.assertIs(is_wiring(BELL, APART, alike), True)

    def test_one_tree_more_or_fewer(self):
        right = (CHASE, FIRST)
        self.assertIs(is_wiring(BELL, PAIR, right), True)
        for wrong in (right[:1], right + (FIRST,), (), list(right), (right,), right[0], None):
            self.assertIs(is_wiring(BELL, PAIR, wrong), False, wrong)

    def test_bent(self):
        for other, right in ((PAIR, (CHASE, ("measure", 3, (THEN, FIRST)))), (COIN, (CHASE,)),
                             (PAIR, (("measure", 1, (("measure", 2, (FIRST, THEN)), FIRST)), THEN))):
            told = {True: 0, False: 0}
            for value in bent(right):
                is_right = own_is_wiring(BELL, other, value)
                told[is_right] += 1
                self.assertIs(is_wiring(BELL, other, value), is_right, value)
            self.assertGreater(told[False], 100)

    def test_any_value(self):
        for value in any_values():
            self.assertIs(is_wiring(BELL, COIN, value), False)
            for wrong in ((value,), (("tell", value),), (value, FIRST), (("measure", value, (FIRST, THEN)),),
                          (("measure", 0, value),), (("measure", 0, (FIRST, value)),), ((value, 0),),
                          ((value, 0, (FIRST, THEN)),), (("measure", 0, (FIRST, (value, 1))),)):
                self.assertIs(is_wiring(BELL, COIN, wrong), own_is_wiring(BELL, COIN, wrong), wrong)

    def test_drawn(self):
        maker = Maker(81)
        told = {True: 0, False: 0}
        for scenario in SOURCES:
            for other in OTHERS:
                for value in drawn_wirings(maker, scenario, other, 12):
                    is_right = own_is_wiring(scenario, other, value)
                    told[is_right] += 1
                    self.assertIs(is_wiring(scenario, other, value), is_right, value)
        self.assertGreater(min(told.values()), 50)


class Families(Case):
    def judge(self, scenario, other, wiring, family):
        told = wired(scenario, other, wiring, family)
        self.assertEqual(told, own_wired(scenario, other, wiring, family))
        self.assertIs(is_family(other, told), True)
        self.assertTrue(own_agreed(other, told))
        return told

    def test_drawn(self):
        maker = Maker(82)
        used = 0
        for scenario in SOURCES:
            for other in OTHERS:
                rights = [value for value in drawn_wirings(maker, scenario, other, 20)
                          if own_is_wiring(scenario, other, value)]
                for wiring in rights[:5]:
                    used += 1
                    for family in drawn_families(maker, scenario):
                        self.judge(scenario, other, wiring, family)
        self.assertGreater(used, 150)

    def test_deterministic_and_mixed(self):
        maker = Maker(83)
        for scenario, other in ((BELL, PAIR), (TRIANGLE, TRIANGLE), (THREES, BELL), (PATH, COIN)):
            rights = [value for value in drawn_wirings(maker, scenario, other, 40)
                      if own_is_wiring(scenario, other, value)][:6]
            for wiring in rights:
                for world in worlds(scenario):
                    # Followed with all outcomes settled ahead, each tree tells one outcome.
                    told = tuple(next(told for told, measured in ways(tree)
                                      if all(world[x] == outcome for x, outcome in measured.items()))
                                 for tree in wiring)
                    self.assertEqual(wired(scenario, other, wiring, point(scenario, world)), point(other, told))
                one, two = drawn_families(maker, scenario)[:2]
                share = Fraction(maker.random.randint(0, 7), 7)
                self.assertEqual(
                    wired(scenario, other, wiring, mix(one, two, share)),
                    mix(wired(scenario, other, wiring, one), wired(scenario, other, wiring, two), share))

    def test_relabellings(self):
        """Observable i of the one is ORDER[i] of the other, with its outcomes called anew."""
        maker = Maker(84)
        for scenario in (BELL, TRIANGLE, PATH, ((3, 2, 3, 2), BELL[1]), THREES):
            for order, turns in maker.random.sample(own_relabellings(scenario), 8):
                back = {name: x for x, name in enumerate(order)}
                wiring = tuple(("measure", back[name], tuple(("tell", outcome) for outcome in turns[back[name]]))
                               for name in range(len(order)))
                family = maker.joint_family(scenario)
                self.assertIs(is_wiring(scenario, scenario, wiring), True)
                self.assertEqual(wired(scenario, scenario, wiring, family),
                                 led_family(scenario, (order, turns), family))

    def test_leaving_out(self):
        """Fewer observables, each measured as it is: the marginals."""
        family = mix(BOX, FLAT, Fraction(3, 4))
        read = [("measure", x, (FIRST, THEN)) for x in range(4)]
        for other, lots in ((PAIR, ((0, 2),)), (COIN, ((3,),)), (APART, ((0,), (1,))), (PATH, ((2, 0), (0, 3)))):
            order = {PAIR: (0, 2), COIN: (3,), APART: (0, 1), PATH: (2, 0, 3)}[other]
            told = wired(BELL, other, tuple(read[x] for x in order), family)
            for row, lot in zip(told, lots):
                ascending = tuple(sorted(lot))
                at = next(at for at, context in enumerate(BELL[1]) if set(lot) <= set(context))
                numbers = dict(zip(secs(BELL, ascending), own_marginal(BELL, family[at], BELL[1][at], ascending)))
                for section, number in zip(product((0, 1), repeat=len(lot)), row):
                    table = dict(zip(lot, section))
                    self.assertEqual(frac(number), numbers[tuple(table[x] for x in ascending)])

    def test_coarse_graining_and_reading_together(self):
        maker = Maker(85)
        scenario = ((3, 2, 2), ((0, 1), (0, 2), (1, 2)))
        family = maker.joint_family(scenario)
        coarse = ("measure", 0, (FIRST, THEN, THEN))
        told = wired(scenario, COIN, (coarse,), family)
        first = own_marginal(scenario, family[0], (0, 1), (0,))
        self.assertEqual(told, ((pair(first[0]), pair(first[1] + first[2])),))
        both = ("measure", 1, (("measure", 2, (("tell", 0), ("tell", 1))), ("measure", 2, (("tell", 2), ("tell", 3)))))
        self.assertEqual(wired(scenario, ((4,), ((0,),)), (both,), family), (family[2],))

    def test_nothing_measured(self):
        self.assertEqual(wired(BELL, PAIR, (THEN, FIRST), BOX), ((NIL, NIL, ONE, NIL),))

    def test_fraction(self):
        """No wiring raises the contextual fraction."""
        maker = Maker(86)
        above = 0
        for scenario, other in ((BELL, BELL), (TRIANGLE, TRIANGLE), (BELL, TRIANGLE), (THREES, BELL), (BELL, PATH)):
            values = [own for own in drawn_wirings(maker, scenario, other, 60) if own_is_wiring(scenario, other, own)]
            if scenario == other:
                order = own_relabellings(scenario)[-1]
                values.append(tuple(("measure", order[0].index(x), (FIRST, THEN)) for x in range(len(order[0]))))
            for wiring in values[-8:]:
                for family in drawn_families(maker, scenario):
                    before = frac(contextual_fraction(scenario, family))
                    after = frac(contextual_fraction(other, wired(scenario, other, wiring, family)))
                    self.assertLessEqual(after, before)
                    above += after > 0
        self.assertGreater(above, 0)

    def test_fraction_of_mixtures(self):
        maker = Maker(87)
        for scenario, box in ((BELL, BOX), (TRIANGLE, SIMPLEX_BOX)):
            turned = led_family(scenario, own_relabellings(scenario)[1], box)
            for _ in range(8):
                one = mix(box, maker.joint_family(scenario), Fraction(maker.random.randint(0, 5), 5))
                two = mix(turned, maker.joint_family(scenario), Fraction(maker.random.randint(0, 5), 5))
                share = Fraction(maker.random.randint(0, 6), 6)
                mixed = mixture(scenario, one, two, pair(share))
                most = share * frac(contextual_fraction(scenario, one))
                most += (1 - share) * frac(contextual_fraction(scenario, two))
                self.assertLessEqual(frac(contextual_fraction(scenario, mixed)), most)


def own_beside(scenario, other):
    many = len(scenario[0])
    contexts = sorted(one + tuple(many + x for x in two) for one in scenario[1] for two in other[1])
    return (scenario[0] + other[0], tuple(contexts))


class Beside(Case):
    def test_scenarios(self):
        fitting = 0
        for scenario in SMALL + [PAIR, APART]:
            for other in SMALL + [PAIR, APART]:
                told = own_beside(scenario, other)
                size = len(worlds((told[0], ())))
                if len(told[0]) <= 6 and size <= 64:
                    fitting += 1
                    self.assertEqual(beside(scenario, other), told)
                    self.assertIs(is_scenario(told), True)
                else:
                    self.refuses((InvalidScenario, "given", told), beside, scenario, other)
        self.assertGreater(fitting, 20)

    def test_families(self):
        maker = Maker(88)
        for scenario, other in ((COIN, COIN), (BELL, PAIR), (PAIR, BELL), (TRIANGLE, PATH), (PATH, TRIANGLE),
                                (APART, ((3, 4), ((0, 1),)))):
            one, two = drawn_families(maker, scenario)[-1], drawn_families(maker, other)[-1]
            told = beside_families(scenario, one, other, two)
            whole = own_beside(scenario, other)
            self.assertIs(is_family(whole, told), True)
            self.assertIs(is_no_signalling(whole, told), True)
            many = len(scenario[0])
            for context, row in zip(whole[1], told):
                first = tuple(x for x in context if x < many)
                second = tuple(x - many for x in context if x >= many)
                left = dict(zip(secs(scenario, first), one[scenario[1].index(first)]))
                right = dict(zip(secs(other, second), two[other[1].index(second)]))
                for section, number in zip(secs(whole, context), row):
                    self.assertEqual(frac(number), frac(left[section[:len(first)]]) * frac(right[section[len(first):]]))

    def test_joint_ones(self):
        """Joint distributions side by side have the families side by side."""
        maker = Maker(89)
        one, two = maker.distribution(TRIANGLE), maker.distribution(PATH)
        family = beside_families(TRIANGLE, pairs(own_family(TRIANGLE, [frac(number) for number in one])), PATH,
                                 pairs(own_family(PATH, [frac(number) for number in two])))
        products = [frac(number) * frac(other) for number in one for other in two]
        self.assertEqual(family, pairs(own_family(own_beside(TRIANGLE, PATH), products)))

    def test_fraction(self):
        """The noncontextual fraction side by side is the product of both."""
        maker = Maker(90)
        cases = [(TRIANGLE, SIMPLEX_BOX, TRIANGLE, SIMPLEX_BOX), (BELL, BOX, PAIR, (LIKE,)),
                 (COIN, ((ONE, NIL),), BELL, BOX)]
        for share, other in ((Fraction(1, 3), Fraction(1, 2)), (Fraction(4, 5), Fraction(5, 6))):
            cases.append((TRIANGLE, mix(SIMPLEX_BOX, maker.joint_family(TRIANGLE), share),
                          TRIANGLE, mix(SIMPLEX_BOX, maker.joint_family(TRIANGLE), other)))
            cases.append((BELL, mix(BOX, FLAT, (1 + share) / 2), PAIR, maker.joint_family(PAIR)))
        between = 0
        for scenario, one, other, two in cases:
            whole = own_beside(scenario, other)
            told = frac(noncontextual_fraction(whole, beside_families(scenario, one, other, two))[0])
            self.assertEqual(told, frac(noncontextual_fraction(scenario, one)[0])
                             * frac(noncontextual_fraction(other, two)[0]))
            between += 0 < told < 1
        self.assertGreater(between, 1)

    def test_errors_told_last(self):
        signalling = ((ONE, NIL, NIL, NIL),) * 3 + ((NIL, NIL, NIL, ONE),)
        self.refuses((NotAgreed, None, None), beside_families, BELL, signalling, COIN, ((ONE, NIL),))
        self.refuses((NotAgreed, None, None), beside_families, COIN, ((ONE, NIL),), BELL, signalling)
        for scenario, family, other, second in ((BELL, signalling, BELL, BOX), (BELL, BOX, ring(5), (LIKE,) * 5),
                                                (BELL, BOX, BELL, signalling)):
            told = own_beside(scenario, other)
            self.refuses((InvalidScenario, "given", told), beside_families, scenario, family, other, second)

    def test_everything(self):
        """At the bound of 64 global assignments and six observables."""
        scenario, other = ((4, 4), ((0, 1),)), ((2, 2), ((0,), (1,)))
        self.assertEqual(beside(scenario, other), ((4, 4, 2, 2), ((0, 1, 2), (0, 1, 3))))
        self.refuses((InvalidScenario, "given", ((4, 4, 2, 3), ((0, 1, 2), (0, 1, 3)))), beside, scenario,
                     ((2, 3), ((0,), (1,))))
        self.assertEqual(beside(TRIANGLE, PATH)[0], (2,) * 6)


if __name__ == "__main__":
    unittest.main()
