"""[10] to [13]: Graham reductions, joint distributions along them, obstructions and their families."""

import unittest
from fractions import Fraction
from itertools import combinations, permutations, product

from belltables.acyclic import (
    family_against, is_acyclic, is_obstruction, is_reduction, joint_along, obstruction, reduction)
from belltables.errors import InvalidObstruction, InvalidReduction, NotAgreed
from belltables.fractions import contextual_fraction
from belltables.scenarios import is_scenario
from tests.harness import Case
from tests.own import (
    BELL, BOX, COIN, LIKE, NIL, ONE, PATH, TRIANGLE, UNLIKE, Maker, all_of, any_values, frac, fracs, own_agreed,
    own_family, own_marginal, pairs, part, ring, secs, worlds)

STAR = ((2, 3, 2, 2), ((0, 1), (1, 2), (1, 3)))
APART = ((2, 2, 2, 3), ((0,), (1, 2), (3,)))
LONG = ((2,) * 6, ((0, 1), (1, 2), (2, 3), (3, 4), (4, 5)))
WHOLE = ((2, 2, 3), ((0, 1, 2),))
TREES = [COIN, WHOLE, PATH, STAR, APART, LONG, ((2,) * 5, ((0, 1, 2), (1, 2, 3), (2, 4))),
         ((2,) * 4, ((0, 1, 2), (0, 1, 3))), ((2,) * 3, ((0,), (1,), (2,))), ((2,) * 6, ((0, 1, 2), (0, 3), (4, 5))),
         ((2,) * 6, ((0, 1, 2), (0, 2, 3), (0, 3, 4), (1, 2, 5))),
         ((2,) * 6, ((0, 1, 2), (0, 1, 3), (0, 2, 4), (1, 2, 5)))]
RINGS = [TRIANGLE, BELL, ring(4), ring(5), ring(6), all_of((2,) * 4, 2), all_of((2,) * 4, 3), all_of((2,) * 5, 4),
         all_of((2,) * 6, 5), all_of((2,) * 6, 3), all_of((3, 2, 2), 2), ((2,) * 6, ((0, 1, 2), (0, 4, 5), (2, 3, 4))),
         ((2,) * 6, ((0, 1), (0, 2), (1, 2), (3, 4, 5))), ((2,) * 5, ((0, 1), (0, 2), (1, 3), (2, 3), (3, 4)))]


def steps_from(contexts, left):
    """All (CONTEXT, INTO) by which one of those left can be taken away."""
    for one, into in permutations(left, 2):
        shared = {x for other in left if other != one for x in contexts[one] if x in contexts[other]}
        if shared <= set(contexts[into]):
            yield (one, into)


def own_reductions(contexts, left=None):
    """All Graham reductions."""
    left = tuple(range(len(contexts))) if left is None else left
    if len(left) == 1:
        yield ()
        return
    for step in steps_from(contexts, left):
        for rest in own_reductions(contexts, tuple(x for x in left if x != step[0])):
            yield (step,) + rest


def own_together(scenario, lot):
    return any(set(lot) <= set(context) for context in scenario[1])


def own_obstructions(scenario):
    """All obstructions, word by word as [12] tells them."""
    many = len(scenario[0])
    found = []
    for size in range(3, many + 1):
        for lot in combinations(range(many), size):
            if not own_together(scenario, lot) and all(
                    own_together(scenario, [x for x in lot if x != out]) for out in lot):
                found.append(("simplex", lot))
    for size in range(4, many + 1):
        for row in permutations(range(many), size):
            beside = {frozenset((row[at], row[(at + 1) % size])) for at in range(size)}
            if row[0] == min(row) and row[1] < row[-1] and all(
                    own_together(scenario, two) == (frozenset(two) in beside) for two in combinations(row, 2)) and (
                    not any(own_together(scenario, three) for three in combinations(row, 3))):
                found.append(("cycle", row))
    return found


def small_scenarios():
    """All scenarios of up to four observables of two outcomes."""
    for many in range(1, 5):
        lots = sorted(lot for size in range(1, many + 1) for lot in combinations(range(many), size))
        for size in range(1, 7):
            for contexts in combinations(lots, size):
                if {x for context in contexts for x in context} == set(range(many)) and not any(
                        set(one) < set(two) for one in contexts for two in contexts):
                    yield ((2,) * many, contexts)


class Reductions(unittest.TestCase):
    def test_known(self):
        for scenario in TREES:
            self.assertIs(is_acyclic(scenario), True, scenario)
        for scenario in RINGS:
            self.assertIs(is_acyclic(scenario), False, scenario)
            self.assertIsNone(reduction(scenario))
        self.assertEqual(reduction(COIN), ())
        self.assertIs(is_reduction(COIN, ()), True)

    def judge(self, scenario):
        """Just one of both is told, and it is right by the test's own look."""
        self.assertTrue(is_scenario(scenario))
        told, against = reduction(scenario), obstruction(scenario)
        self.assertIs(is_acyclic(scenario), told is not None)
        if told is None:
            self.assertIn(against, own_obstructions(scenario))
            self.assertIs(is_obstruction(scenario, against), True)
        else:
            self.assertIsNone(against)
            self.assertEqual(own_obstructions(scenario), [])
            left = tuple(range(len(scenario[1])))
            for step in told:
                self.assertIn(step, list(steps_from(scenario[1], left)))
                left = tuple(x for x in left if x != step[0])
            self.assertEqual(len(left), 1)
            self.assertIs(is_reduction(scenario, told), True)

    def test_all_small_scenarios(self):
        many = 0
        for scenario in small_scenarios():
            self.judge(scenario)
            many += 1
        self.assertGreater(many, 100)

    def test_five_and_six(self):
        maker = Maker(31)
        for scenario in TREES + RINGS:
            self.judge(scenario)
        for _ in range(150):
            many = maker.random.randint(5, 6)
            lots = {tuple(sorted(maker.random.sample(range(many), maker.random.randint(2, 4)))) for _ in range(7)}
            lots |= {(x,) for x in range(many)}
            kept = sorted(lot for lot in lots if not any(set(lot) < set(other) for other in lots))
            self.judge(((2,) * many, tuple(kept)))

    def test_any_order_of_observables(self):
        """Names do not matter: rings, paths and simplices with all names exchanged."""
        maker = Maker(32)
        for scenario in TREES + RINGS:
            many = len(scenario[0])
            for _ in range(6):
                order = maker.random.sample(range(many), many)
                sizes = [0] * many
                for x in range(many):
                    sizes[order[x]] = scenario[0][x]
                contexts = sorted(tuple(sorted(order[x] for x in context)) for context in scenario[1])
                led = (tuple(sizes), tuple(contexts))
                self.assertIs(is_acyclic(led), is_acyclic(scenario))
                self.judge(led)

    def test_every_right_one(self):
        for scenario in TREES[:5] + TREES[6:9]:
            rights = set(own_reductions(scenario[1]))
            self.assertTrue(rights)
            self.assertIn(reduction(scenario), rights)
            for right in rights:
                self.assertIs(is_reduction(scenario, right), True)

    def test_every_row_of_pairs(self):
        """All rows of pairs of up to three contexts, beside the test's own list."""
        for scenario in (PATH, TRIANGLE, STAR, APART, ((2,) * 3, ((0,), (1, 2)))):
            many = len(scenario[1])
            rights = set(own_reductions(scenario[1]))
            steps = list(product(range(-1, many + 1), repeat=2))
            for size in range(many + 1):
                for row in product(steps, repeat=size):
                    self.assertIs(is_reduction(scenario, row), row in rights, row)

    def test_wrong_in_one_thing(self):
        right = ((0, 1), (1, 2), (2, 3), (3, 4))
        self.assertIs(is_reduction(LONG, right), True)
        wrongs = [list(right), right[1:], right[:3], right + ((4, 3),), right + ((0, 1),), (list(right[0]),) + right[1:],
                  ((0, 2),) + right[1:], ((1, 0),) + right[1:], ((0, 0),) + right[1:], ((0, 5),) + right[1:],
                  ((-5, 1),) + right[1:], ((0, -4),) + right[1:], ((False, 1),) + right[1:], ((0, True),) + right[1:],
                  ((0, 1, 2),) + right[1:], ((0,),) + right[1:], (0,) + right[1:], (None,) + right[1:],
                  (("0", 1),) + right[1:], right[:3] + ((0, 4),), right[:3] + ((3, 2),), right[:3] + ((4, 0),), (right,),
                  right[:1] + ((1, 0),) + right[2:], right[::-1]]
        for wrong in wrongs:
            self.assertIs(is_reduction(LONG, wrong), False, wrong)

    def test_any_value(self):
        for value in any_values():
            self.assertIs(is_reduction(BELL, value), False)
            self.assertIs(is_reduction(COIN, value), type(value) is tuple and value == (), value)
            self.assertIs(is_reduction(PATH, (value,)), repr(value) in ("(0, 1)", "(1, 0)"), value)
            self.assertIs(is_reduction(PATH, ((0, value),)), type(value) is int and value == 1, value)


class Along(Case):
    def own_along(self, scenario, family, row):
        numbers = []
        for world in worlds(scenario):
            top, bottom = Fraction(1), Fraction(1)
            for context, line in zip(scenario[1], family):
                top *= frac(dict(zip(secs(scenario, context), line))[part(world, context)])
            for one, into in row:
                context = scenario[1][one]
                lot = tuple(x for x in context if x in scenario[1][into])
                sums = own_marginal(scenario, family[one], context, lot)
                bottom *= dict(zip(secs(scenario, lot), sums))[part(world, lot)]
            numbers.append(top / bottom if bottom else Fraction(0))
        return numbers

    def test_every_reduction(self):
        maker = Maker(33)
        for scenario in TREES:
            rights = sorted(own_reductions(scenario[1]))
            for zeros in (0, 60, 90):
                family = maker.joint_family(scenario, 9, zeros)
                for row in rights if len(rights) <= 200 else maker.random.sample(rights, 20):
                    told = joint_along(scenario, family, row)
                    numbers = [frac(number) for number in told]
                    self.assertEqual(numbers, self.own_along(scenario, family, row))
                    self.assertEqual(told, pairs([numbers])[0])
                    self.assertEqual(pairs(own_family(scenario, numbers)), family)

    def test_one_context(self):
        row = Maker(34).row(12)
        self.assertEqual(joint_along(WHOLE, (row,), ()), row)

    def test_errors(self):
        signalling = ((ONE, NIL, NIL, NIL), (NIL, NIL, NIL, ONE))
        self.refuses((NotAgreed, None, None), joint_along, PATH, signalling, ((0, 1),))
        self.refuses((InvalidReduction, "given", ((0, 2),)), joint_along, PATH, signalling, ((0, 2),))
        self.refuses((InvalidReduction, "given", ()), joint_along, BELL, BOX, ())
        for value in any_values():
            if repr(value) != "((0, 1),)":
                self.refuses((InvalidReduction, "given", value), joint_along, PATH, (LIKE, LIKE), value)


class Obstructions(Case):
    def test_every_one(self):
        for scenario in list(small_scenarios()) + RINGS + TREES:
            rights = own_obstructions(scenario)
            for right in rights:
                self.assertIs(is_obstruction(scenario, right), True)
            many = len(scenario[0])
            if many <= 4:
                rows = [row for size in range(many + 1) for row in product(range(many), repeat=size)]
                for kind in ("cycle", "simplex"):
                    for row in rows:
                        self.assertIs(is_obstruction(scenario, (kind, row)), (kind, row) in rights)

    def test_rings_of_five_and_six(self):
        for many in (5, 6):
            scenario = ring(many)
            for row in permutations(range(many)):
                right = ("cycle", row)
                self.assertIs(is_obstruction(scenario, right), row == tuple(range(many)))
                self.assertIs(is_obstruction(scenario, ("simplex", row)), False)

    def test_wrong_in_one_thing(self):
        right = ("cycle", (0, 2, 1, 3))
        self.assertIs(is_obstruction(BELL, right), True)
        for row in ((0, 3, 1, 2), (1, 2, 0, 3), (2, 0, 3, 1), (0, 1, 2, 3), (0, 2, 1), (0, 2, 1, 3, 0), (0, 2, 1, 4),
                    (0, 2, -3, 3), (False, 2, 1, 3), (0, 2, True, 3), [0, 2, 1, 3], "0213", 4, None, (0, 2, (1,), 3),
                    (0, 2, 1, 2), (), (0, 2, "1", 3)):
            self.assertIs(is_obstruction(BELL, ("cycle", row)), False, row)
        for wrong in (("simplex", (0, 2, 1, 3)), ("Cycle", right[1]), (right[1], "cycle"), (b"cycle", right[1]),
                      ["cycle", right[1]], ("cycle",), right + ((),), (right,), ("cycle", right[1], 0)):
            self.assertIs(is_obstruction(BELL, wrong), False, wrong)
        self.assertIs(is_obstruction(TRIANGLE, ("simplex", (0, 1, 2))), True)
        for row in ((0, 2, 1), (0, 1), (0, 1, 2, 2), (0, 1, 3), (-1, 0, 1), (False, 1, 2), (0, True, 2), [0, 1, 2],
                    (0, 0, 1), (0, 1, "2"), (), None, (0,)):
            self.assertIs(is_obstruction(TRIANGLE, ("simplex", row)), False, row)

    def test_any_value(self):
        for value in any_values():
            self.assertIs(is_obstruction(BELL, value), False)
            self.assertIs(is_obstruction(BELL, ("cycle", value)), False)
            self.assertIs(is_obstruction(TRIANGLE, ("simplex", value)), False)
            self.assertIs(is_obstruction(BELL, (value, (0, 2, 1, 3))), repr(value) == "'cycle'")
            self.assertIs(is_obstruction(TRIANGLE, ("simplex", (0, 1, value))), type(value) is int and value == 2)

    def test_errors(self):
        for value in any_values():
            self.refuses((InvalidObstruction, "given", value), family_against, BELL, value)
            self.refuses((InvalidObstruction, "given", value), family_against, PATH, value)


class Against(unittest.TestCase):
    def own_against(self, scenario, kind, row):
        """What any lot of the obstruction tells, summed up over what the context leaves out of it."""
        family = []
        for context in scenario[1]:
            lot = [x for x in context if x in row]
            line = []
            for section in secs(scenario, context):
                told = dict(zip(context, section))
                inside = [told[x] for x in lot]
                if any(told[x] for x in context if x not in row) or any(outcome > 1 for outcome in inside):
                    line.append(Fraction(0))
                elif kind == "simplex":
                    others = len(row) - 1 - len(lot)
                    line.append(Fraction(others if sum(inside) == 0 else int(sum(inside) == 1), len(row) - 1))
                elif len(lot) == 2:
                    ends = {row[0], row[-1]} == set(lot)
                    line.append(Fraction(int((inside[0] == inside[1]) != ends), 2))
                else:
                    line.append(Fraction(1, 2 ** len(lot)))
            family.append(line)
        return pairs(family)

    def test_families(self):
        scenarios = [scenario for scenario in small_scenarios() if own_obstructions(scenario)] + RINGS
        scenarios += [((3, 2, 2), TRIANGLE[1]), ((3, 3, 2, 2), BELL[1]), ((2, 4, 2, 4), BELL[1]),
                      ((2, 2, 2, 3), ((0, 1, 3), (0, 2, 3), (1, 2, 3))), ((2, 2, 2, 2, 3), BELL[1] + ((4,),))]
        for scenario in scenarios:
            for kind, row in own_obstructions(scenario):
                family = family_against(scenario, (kind, row))
                self.assertEqual(family, self.own_against(scenario, kind, row))
                self.assertTrue(all(sum(line) == 1 for line in fracs(family)))
                self.assertTrue(own_agreed(scenario, family))
                tables = [dict(zip(secs(scenario, context), line)) for context, line in zip(scenario[1], family)]
                self.assertFalse(any(all(table[part(world, context)] != NIL
                                         for context, table in zip(scenario[1], tables)) for world in worlds(scenario)))
        self.assertEqual(contextual_fraction(BELL, family_against(BELL, ("cycle", (0, 2, 1, 3)))), (1, 1))

    def test_simplex_of_four(self):
        scenario = all_of((2,) * 4, 3)
        family = family_against(scenario, ("simplex", (0, 1, 2, 3)))
        self.assertEqual(family, ((NIL, (1, 3), (1, 3), NIL, (1, 3), NIL, NIL, NIL),) * 4)
        self.assertEqual(family_against(TRIANGLE, ("simplex", (0, 1, 2))), (UNLIKE,) * 3)


if __name__ == "__main__":
    unittest.main()
