"""[28]: parity rows of supports, outcomes that solve them, all-versus-nothing arguments."""

import unittest
from itertools import combinations, product

from belltables.errors import Unfit
from belltables.parity import is_argument, parity_rows, solved_or_odd
from belltables.possible import contextuality_of
from tests.harness import Case
from tests.own import (
    BELL, COIN, PATH, TRIANGLE, Maker, all_of, any_values, bent, is_int, own_possible, own_support, own_told, ring,
    secs, worlds)

PAIRED = [
    COIN, PATH, TRIANGLE, BELL, ((2, 2), ((0, 1),)), ((2, 2, 2, 2), ((0, 1), (2, 3))), all_of((2,) * 4, 3), ring(5),
    ring(6), ((2, 2, 2, 2), ((0, 1, 2), (0, 3), (1, 3))), all_of((2,) * 6, 2), all_of((2,) * 6, 3),
    ((2,) * 6, ((0, 1, 2, 3, 4, 5),)), ((2,) * 6, ((0, 1, 2), (0, 4, 5), (1, 3, 5), (2, 3, 4))),
    all_of((2,) * 6, 5),
]
SAME, OTHER_WAY = ((0, 0), (1, 1)), ((0, 1), (1, 0))
SIGNS = (SAME, SAME, SAME, OTHER_WAY)
ARGUMENT = ((0, (0, 2), 0), (1, (0, 3), 0), (2, (1, 2), 0), (3, (1, 3), 1))


def own_rows(scenario, support):
    found = []
    for at, (context, row) in enumerate(zip(scenario[1], support)):
        for many in range(1, len(context) + 1):
            for lot in combinations(context, many):
                for parity in (0, 1):
                    if all(sum(own_told(context, told, lot)) % 2 == parity for told in row):
                        found.append((at, lot, parity))
    return tuple(sorted(found))


def own_is_parity_row(scenario, value):
    if type(value) is not tuple or len(value) != 3:
        return False
    at, lot, parity = value
    if not is_int(at) or not 0 <= at < len(scenario[1]) or not is_int(parity) or parity not in (0, 1):
        return False
    return (type(lot) is tuple and len(lot) > 0 and all(is_int(x) for x in lot) and list(lot) == sorted(set(lot))
            and set(lot) <= set(scenario[1][at]))


def own_is_argument(scenario, value):
    if type(value) is not tuple or not value or not all(own_is_parity_row(scenario, row) for row in value):
        return False
    if list(value) != sorted(set(value)) or sum(parity for _, _, parity in value) % 2 == 0:
        return False
    return all(sum(x in lot for _, lot, _ in value) % 2 == 0 for x in range(len(scenario[0])))


def solves(world, row):
    return sum(world[x] for x in row[1]) % 2 == row[2]


def parity_support(maker, scenario, many):
    """A support whose sections are just those that solve some drawn rows, some of them against one another."""
    rows = []
    for context in scenario[1]:
        lots = [tuple(sorted(maker.random.sample(context, maker.random.randint(1, len(context))))) for _ in range(many)]
        wanted = [(0, lot, maker.random.randint(0, 1)) for lot in lots]
        kept = [told for told in secs(scenario, context)
                if all(sum(own_told(context, told, lot)) % 2 == parity for _, lot, parity in wanted)]
        rows.append(tuple(kept or [maker.random.choice(secs(scenario, context))]))
    return tuple(rows)


def drawn_supports(maker, scenario):
    cases = [tuple(tuple(secs(scenario, context)) for context in scenario[1])]
    cases += [own_support(scenario, maker.random.choices(worlds(scenario), k=many)) for many in (1, 2, 3, 6)]
    cases += [parity_support(maker, scenario, many) for many in (1, 1, 1, 2, 2, 3)]
    return cases


class Rows(Case):
    def test_rows(self):
        maker = Maker(111)
        for scenario in PAIRED:
            for support in drawn_supports(maker, scenario):
                self.assertEqual(parity_rows(scenario, support), own_rows(scenario, support))

    def test_one_section(self):
        """With one possible section each lot has a row."""
        self.assertEqual(parity_rows(BELL, (((0, 1),), ((0, 0),), ((1, 1),), ((1, 0),)))[:3],
                         ((0, (0,), 0), (0, (0, 2), 1), (0, (2,), 1)))

    def test_solved_or_odd(self):
        maker = Maker(112)
        told = {"solved": 0, "odd": 0}
        for scenario in PAIRED:
            for support in drawn_supports(maker, scenario):
                rows = own_rows(scenario, support)
                word, found = solved_or_odd(scenario, support)
                told[word] += 1
                solutions = [world for world in worlds(scenario) if all(solves(world, row) for row in rows)]
                if word == "solved":
                    self.assertIn(found, solutions)
                else:
                    self.assertEqual(word, "odd")
                    self.assertEqual(solutions, [])
                    self.assertLessEqual(set(found), set(rows))
                    self.assertTrue(own_is_argument(scenario, found))
                    self.assertIs(is_argument(scenario, found), True)
                    self.assertEqual(own_possible(scenario, support), [])
                    self.assertEqual(contextuality_of(scenario, support), "strongly contextual")
        self.assertGreater(min(told.values()), 30)

    def test_not_back(self):
        """A strongly contextual support may have too few parity rows."""
        scenario = TRIANGLE
        found = 0
        rows = [row for many in (2, 3) for row in combinations(secs(scenario, (0, 1)), many)]
        for support in product(rows, repeat=3):
            if not own_possible(scenario, support) and solved_or_odd(scenario, support)[0] == "solved":
                found += 1
        self.assertGreater(found, 0)

    def test_signs(self):
        self.assertEqual(solved_or_odd(BELL, SIGNS), ("odd", ARGUMENT))
        self.assertEqual(solved_or_odd(COIN, (((1,),),)), ("solved", (1,)))
        self.assertEqual(parity_rows(COIN, (((0,), (1,)),)), ())


class Arguments(Case):
    def test_right(self):
        self.assertIs(is_argument(BELL, ARGUMENT), True)
        # Two rows that are against one another, whatever support they are of.
        self.assertIs(is_argument(BELL, ((0, (0, 2), 0), (0, (0, 2), 1))), True)
        self.assertIs(is_argument(BELL, ((0, (0,), 0), (1, (0,), 1))), True)
        self.assertIs(is_argument(COIN, ((0, (0,), 0), (0, (0,), 1))), True)

    def test_wrong_in_one_thing(self):
        first, *rest = ARGUMENT
        for row in ((0, (0, 2), 1), (0, (0,), 0), (0, (2,), 0), (0, (2, 0), 0), (0, (0, 3), 0), (1, (0, 2), 0),
                    (0, (), 0),
                    (0, (0, 2), 2), (0, (0, 2), -1), (0, (0, 2), False), (False, (0, 2), 0), (0, (False, 2), 0),
                    (-4, (0, 2), 0), (0, [0, 2], 0), [0, (0, 2), 0], (0, (0, 2)), (0, (0, 2), 0, 0), (0, (0, 0, 2), 0),
                    None, (), 0, "row", (0, (0, 2), None), (0, "02", 0), (0, (0, 2, 4), 0), (4, (0, 2), 0)):
            self.assertIs(is_argument(BELL, (row, *rest)), False, row)
        for wrong in ((), ARGUMENT[1:], ARGUMENT[:3], ARGUMENT[::-1], list(ARGUMENT), ARGUMENT + ARGUMENT[3:],
                      (first, first, *ARGUMENT), (ARGUMENT,), None, ARGUMENT[:3] + ((3, (1, 3), 0),),
                      ((0, (), 1),), ((0, (), 0), *ARGUMENT), ((0, (), 1), (0, (0, 2), 0), (1, (0, 3), 0))):
            self.assertIs(is_argument(BELL, wrong), False, wrong)

    def test_bent(self):
        told = {True: 0, False: 0}
        for scenario, right in ((BELL, ARGUMENT), (COIN, ((0, (0,), 0), (0, (0,), 1))),
                                (PATH, ((0, (0, 1), 0), (0, (1,), 1), (1, (1,), 1), (1, (1, 2), 1), (1, (2,), 0)))):
            for value in bent(right):
                is_right = own_is_argument(scenario, value)
                told[is_right] += 1
                self.assertIs(is_argument(scenario, value), is_right, value)
        self.assertGreater(told[False], 200)

    def test_drawn(self):
        """Lots of rows; just those that are odd with each observable an even number of times."""
        maker = Maker(113)
        told = {True: 0, False: 0}
        for scenario in (COIN, PATH, TRIANGLE, BELL, ((2, 2, 2), ((0, 1, 2),))):
            rows = [(at, lot, parity) for at, context in enumerate(scenario[1]) for many in range(1, len(context) + 1)
                    for lot in combinations(context, many) for parity in (0, 1)]
            for _ in range(400):
                value = tuple(sorted(maker.random.sample(rows, min(len(rows), maker.random.randint(1, 5)))))
                is_right = own_is_argument(scenario, value)
                told[is_right] += 1
                self.assertIs(is_argument(scenario, value), is_right, value)
        self.assertGreater(min(told.values()), 50)

    def test_any_value(self):
        for value in any_values():
            for wrong in (value, (value,), ARGUMENT[:3] + (value,), ((value, (0, 2), 0),) + ARGUMENT[1:],
                          ((0, value, 0),) + ARGUMENT[1:], ARGUMENT[:3] + ((3, (1, 3), value),),
                          ARGUMENT[:3] + ((3, (value, 3), 1),), (value,) + ARGUMENT[1:]):
                self.assertIs(is_argument(BELL, wrong), own_is_argument(BELL, wrong), wrong)

    def test_unfit(self):
        """With another number of outcomes it is the scenario that does not fit, whatever else is right."""
        scenario = ((2, 3), ((0, 1),))
        support = (tuple(secs(scenario, (0, 1))),)
        told = (Unfit, "given", (2, 3))
        self.refuses(told, parity_rows, scenario, support)
        self.refuses(told, solved_or_odd, scenario, support)
        for value in (None, (), ((0, (0,), 0), (0, (0,), 1)), 7):
            self.refuses(told, is_argument, scenario, value)


if __name__ == "__main__":
    unittest.main()
