"""[41], [42]: tails, plans and how they are played, levels of logs, and that memory does not help."""

import unittest
from fractions import Fraction
from itertools import product

from belltables import errors
from belltables.games import classical_value
from belltables.memory import constant_plan, is_plan, level, plan_chance, rounds_needed, tail, wins_of
from tests.harness import Case, Spec
from tests.judging import lines, own_is_plan, own_pairs_in, own_plan_chance, own_rounds, own_tail
from tests.own import (
    BELL, COIN, GAME, HALF, NIL, ONE, PATH, QUARTER, SMALL, THIRD, TRIANGLE, Maker, any_values, bent, frac, is_int,
    own_is_fraction, own_is_section, own_sums, pair, secs, worlds)
from tests.test_arguments import NO_GAME, NO_SCENARIO, given, indexed
from tests.test_logs import LOG, drawn_log

SHARES = [NIL, ONE, HALF, THIRD, (3, 4), (1, 10 ** 9), (999, 1000)]
NO_COUNT = given(errors.InvalidNumber, [-1, 101, True, False, None, "3", (3,), 10 ** 60, [], -10 ** 399])
NO_SHARE = given(errors.InvalidFraction, [
    (-1, 2), (3, 2), (2, 4), (1, 0), (1, -2), 1, 0, True, None, [1, 2], (1, 2, 3), (True, 2), (1, True), (0, 2), "1/2"])
SEVEN = ((2,) * 5, ((0, 1), (0, 2), (0, 3), (0, 4), (1, 2), (1, 3), (1, 4)))
EIGHT = ((2,) * 5, SEVEN[1] + ((2, 3),))


def by_rows(number, wins, share):
    """The sum over all rows of wins and losses."""
    rows = [row for row in product((0, 1), repeat=number) if sum(row) >= wins]
    return sum((share ** sum(row) * (1 - share) ** (number - sum(row)) for row in rows), Fraction(0))


def drawn_plan(maker, scenario, number):
    if number == 0:
        return ()
    return (maker.random.choice(worlds(scenario)),
            tuple(drawn_plan(maker, scenario, number - 1) for _ in scenario[1]))


def in_one(scenario, number):
    """A plan of a scenario with one context, one round in another."""
    plan = ()
    for at in range(number):
        plan = (worlds(scenario)[at % len(worlds(scenario))], (plan,))
    return plan


class Tails(Case):
    def test_all_rows(self):
        maker = Maker(181)
        shares = SHARES + [maker.row(2)[0] for _ in range(5)]
        for number in range(9):
            for wins in (0, 1, 2, number // 2, number, number + 1, number + 2, 100):
                for share in shares:
                    told = by_rows(number, wins, frac(share))
                    self.assertEqual(own_tail(number, wins, frac(share)), told)
                    self.assertEqual(tail(number, wins, share), pair(told), (number, wins, share))

    def test_at_the_ends(self):
        for share in SHARES:
            for number in (0, 1, 7, 100):
                self.assertEqual(tail(number, 0, share), ONE)
                for more in (number + 1, number + 2, 100):
                    if number < more <= 100:
                        self.assertEqual(tail(number, more, share), NIL)
                self.assertEqual(tail(number, number, share), pair(frac(share) ** number))
                self.refuses((errors.InvalidNumber, "given", -1), tail, number, -1, share)
        for number, wins in ((0, 0), (5, 0), (5, 3), (100, 100)):
            self.assertEqual(tail(number, wins, ONE), ONE)
        for number, wins in ((1, 1), (5, 3), (100, 100), (0, 1)):
            self.assertEqual(tail(number, wins, NIL), NIL)

    def test_many_rounds(self):
        maker = Maker(182)
        for number in (20, 57, 99, 100):
            for _ in range(6):
                wins = maker.random.randint(0, 100)
                share = maker.row(2)[0]
                self.assertEqual(tail(number, wins, share), pair(own_tail(number, wins, frac(share))))

    def test_grows(self):
        """With the chance of each round, and down with the wins."""
        for number in (1, 6, 30):
            numbers = [[frac(tail(number, wins, (top, 12))) if top % 2 and top % 3 else
                        own_tail(number, wins, Fraction(top, 12)) for top in range(13)] for wins in range(number + 2)]
            for row in numbers:
                self.assertEqual(row, sorted(row))
            for one, two in zip(numbers, numbers[1:]):
                self.assertTrue(all(a >= b for a, b in zip(one, two)))

    def test_great_numbers(self):
        below = 10 ** 399 + 7
        self.assertEqual(tail(2, 2, (1, below)), (1, below ** 2))
        self.assertEqual(tail(100, 100, (1, below)), (1, below ** 100))
        self.assertEqual(tail(3, 1, (1, below)), pair(1 - (1 - Fraction(1, below)) ** 3))


class Plans(Case):
    def test_right(self):
        maker = Maker(183)
        for scenario in SMALL:
            for number in range(4):
                plan = drawn_plan(maker, scenario, number)
                for other in range(5):
                    self.assertIs(is_plan(scenario, other, plan), other == number)

    def test_bent(self):
        told = {True: 0, False: 0}
        maker = Maker(184)
        for scenario in (COIN, PATH, ((3, 2), ((0,), (1,)))):
            for number in range(4):
                plan = drawn_plan(maker, scenario, number)
                for value in bent(plan):
                    for other in (0, 1, 2, 3, 4):
                        is_right = own_is_plan(scenario, other, value)
                        told[is_right] += 1
                        self.assertIs(is_plan(scenario, other, value), is_right, value)
                    if own_rounds(scenario, value) is None:
                        game = maker.game(scenario)
                        self.refuses((errors.InvalidPlan, "given", value), plan_chance, scenario, game, value, 1)
        self.assertGreater(min(told.values()), 50)

    def test_one_thing_wrong(self):
        zero = (0, 0, 0, 0)
        one = (zero, ((),) * 4)
        right = (zero, (one,) * 4)
        self.assertIs(is_plan(BELL, 2, right), True)
        wrong = [
            (zero, (one,) * 3), (zero, (one,) * 5), (zero, [one] * 4), [zero, (one,) * 4], (zero, (one,) * 4, ()),
            (zero[:3], (one,) * 4), ((0, 0, 0, 2), (one,) * 4), ((0, 0, 0, True), (one,) * 4),
            (list(zero), (one,) * 4), (zero, ((), one, one, one)), (zero, (one, one, one, ())),
            (zero, (one, one, right, one)), (zero, (one, one, one, (zero, ((), (), (), None)))), (zero,), ((one,) * 4,),
            (zero, (one, one, one, (zero, ((), (), (), [])))), (zero, (one, one, one, (zero, ((),) * 3))), None, zero,
            "plan", one + one, (None, (one,) * 4), (zero, one), ((), (one,) * 4), (zero, {at: one for at in range(4)})]
        for value in wrong:
            self.assertIs(is_plan(BELL, 2, value), False, value)
            self.refuses((errors.InvalidPlan, "given", value), plan_chance, BELL, GAME, value, 0)

    def test_any_value(self):
        for value in any_values():
            for wrong in (value, (value,), ((0, 0, 0, 0), value), (value, ((),) * 4), ((0, 0, 0, 0), (value,) * 4),
                          ((0, 0, 0, 0), ((), (), value, ()))):
                for number in (0, 1, 2):
                    self.assertIs(is_plan(BELL, number, wrong), own_is_plan(BELL, number, wrong), wrong)
                if own_rounds(BELL, wrong) is None:
                    self.refuses((errors.InvalidPlan, "given", wrong), plan_chance, BELL, GAME, wrong, 1)

    def test_four_hundred_pairs(self):
        """1 + 7 + 49 + 343 are 400."""
        world = (0,) * 5
        self.assertEqual(own_pairs_in(SEVEN, 4), 400)
        plan = constant_plan(SEVEN, 4, world)
        self.assertIs(is_plan(SEVEN, 4, plan), True)
        game = (((1, 7),) * 7, ((1, 0, 0, 1),) * 7)
        self.assertEqual(plan_chance(SEVEN, game, plan, 4), ONE)
        self.refuses((errors.TooMany, "given", 2801), constant_plan, SEVEN, 5, world)
        self.refuses((errors.TooMany, "given", 585), constant_plan, EIGHT, 4, world)
        more = (world, (plan,) * 7)
        self.assertIs(is_plan(SEVEN, 5, more), False)
        self.refuses((errors.InvalidPlan, "given", more), plan_chance, SEVEN, game, more, 0)
        more = (world, (constant_plan(EIGHT, 3, world),) * 8)
        self.assertIs(is_plan(EIGHT, 4, more), False)
        game = (((1, 8),) * 8, ((1, 0, 0, 1),) * 8)
        self.refuses((errors.InvalidPlan, "given", more), plan_chance, EIGHT, game, more, 0)

    def test_one_context(self):
        """With one context a plan has as many pairs as rounds: up to 400."""
        game = ((ONE,), ((1, 0),))
        for number in (0, 1, 2, 100, 399, 400):
            plan = in_one(COIN, number)
            most = (number + 1) // 2
            for wins in {0, 1, min(most, 100), min(most + 1, 100), 100}:
                self.assertEqual(plan_chance(COIN, game, plan, wins), ONE if wins <= most else NIL)
        with self.assertRaises(errors.InvalidPlan) as caught:
            plan_chance(COIN, game, in_one(COIN, 401), 1)
        self.assertIs(type(caught.exception), errors.InvalidPlan)
        self.assertIs(is_plan(COIN, 100, in_one(COIN, 100)), True)
        self.assertIs(is_plan(COIN, 100, in_one(COIN, 101)), False)
        self.assertIs(is_plan(COIN, 99, in_one(COIN, 100)), False)

    def test_one_plan_in_many_places(self):
        """A value that is small, and yet has very many pairs."""
        plan = ()
        for _ in range(18):
            plan = ((0, 0, 0, 0), (plan,) * 4)
        self.assertIs(is_plan(BELL, 18, plan), False)
        self.assertIs(is_plan(BELL, 4, plan), False)
        self.refuses((errors.InvalidPlan, "given", plan), plan_chance, BELL, GAME, plan, 1)

    def test_constant(self):
        maker = Maker(185)
        for scenario in SMALL:
            world = maker.random.choice(worlds(scenario))
            for number in (0, 1, 2, 3, 4, 7, 50, 100):
                many = own_pairs_in(scenario, number)
                if many > 400:
                    self.refuses((errors.TooMany, "given", many), constant_plan, scenario, number, world)
                    continue
                plan = constant_plan(scenario, number, world)
                self.assertEqual(own_rounds(scenario, plan), number)
                self.assertIs(is_plan(scenario, number, plan), True)
                left = plan
                for _ in range(number):
                    self.assertEqual(left[0], world)
                    self.assertEqual(set(left[1]), {left[1][0]})
                    left = left[1][-1]
        self.assertEqual(constant_plan(PATH, 2, (0, 1, 0)), ((0, 1, 0), (((0, 1, 0), ((), ())),) * 2))


class Chances(Case):
    def test_all_rows_of_contexts(self):
        maker = Maker(186)
        for scenario in SMALL:
            for number in range(4):
                if own_pairs_in(scenario, number) > 400 or len(scenario[1]) ** number > 300:
                    continue
                game, plan = maker.game(scenario), drawn_plan(maker, scenario, number)
                for wins in range(number + 2):
                    self.assertEqual(plan_chance(scenario, game, plan, wins),
                                     pair(own_plan_chance(scenario, game, plan, wins)))
                self.assertEqual(plan_chance(scenario, game, plan, 100), NIL)

    def test_memory_does_not_help(self):
        """No plan, and no mixture of two, wins so often with more than the tail of the classical value."""
        maker = Maker(187)
        met = 0
        for scenario in [BELL, TRIANGLE, PATH, ((2, 3), ((0,), (1,))), SMALL[8]]:
            for _ in range(12):
                game = maker.game(scenario)
                best, world = classical_value(scenario, game)
                number = maker.random.randint(1, 3)
                plans = [drawn_plan(maker, scenario, number) for _ in range(3)]
                # One that plays nearly as well as can be.
                plans.append((world, tuple(constant_plan(scenario, number - 1, maker.random.choice(
                    (world, world, plans[0][0]))) for _ in scenario[1])))
                constant = constant_plan(scenario, number, world)
                for wins in range(number + 2):
                    top = frac(tail(number, wins, best))
                    self.assertEqual(frac(plan_chance(scenario, game, constant, wins)), top)
                    chances = [frac(plan_chance(scenario, game, plan, wins)) for plan in plans]
                    self.assertLessEqual(max(chances), top)
                    share = Fraction(maker.random.randint(0, 7), 7)
                    self.assertLessEqual(share * chances[0] + (1 - share) * chances[3], top)
                    met += max(chances) == top
        self.assertGreater(met, 20)

    def test_all_plans(self):
        """Of all plans of two rounds of the path's game the best is as good as the tail."""
        game = (((1, 3), (2, 3)), ((1, 0, 0, 1), (0, 1, 1, 0)))
        broken = (((1, 3), (2, 3)), ((1, 0, 0, 0), (0, 0, 0, 1)))
        ones = [(world, ((), ())) for world in worlds(PATH)]
        for told in (game, broken):
            best = classical_value(PATH, told)[0]
            for wins in (0, 1, 2, 3):
                chances = [frac(plan_chance(PATH, told, (world, (one, other)), wins))
                           for world in worlds(PATH) for one in ones for other in ones]
                self.assertEqual(max(chances), frac(tail(2, wins, best)))

    def test_nothing_to_play(self):
        for wins, number in ((0, ONE), (1, NIL), (100, NIL)):
            self.assertEqual(plan_chance(BELL, GAME, (), wins), number)


class Logs(Case):
    def test_wins_and_levels(self):
        maker = Maker(188)
        for scenario in SMALL:
            for many in (0, 1, 6, 40, 100):
                game, log = maker.game(scenario), drawn_log(maker, scenario, many)
                won = sum(game[1][at][secs(scenario, scenario[1][at]).index(told)] for at, told in log)
                self.assertEqual(wins_of(scenario, game, log), won)
                best = max(own_sums(scenario, lines(game)))
                self.assertEqual(level(scenario, game, log), pair(own_tail(many, won, best)))

    def test_how_long(self):
        for many, is_right in ((100, True), (101, False), (400, False), (401, False)):
            log = LOG[:1] * many
            for function in (wins_of, level):
                if is_right:
                    self.assertEqual(function(BELL, GAME, log), 100 if function is wins_of else tail(100, 100, (3, 4)))
                else:
                    self.refuses((errors.InvalidLog, "index", None), function, BELL, GAME, log)
        # A pair that is wrong is told ahead of a log that is too long for games alone.
        for function in (wins_of, level):
            self.refuses((errors.InvalidLog, "index", 7), function, BELL, GAME, LOG[:1] * 7 + (None,) + LOG[:1] * 200)
            self.refuses((errors.InvalidLog, "index", None), function, BELL, GAME, (None,) * 401)

    def test_rounds_needed(self):
        maker = Maker(189)
        told = {"none": 0, "many": 0, "few": 0}
        for scenario in (BELL, TRIANGLE, PATH, COIN):
            for _ in range(25):
                game = maker.game(scenario)
                best = max(own_sums(scenario, lines(game)))
                for share in (ONE, HALF, (1, 100), (1, 10 ** 20), maker.row(2)[0]):
                    if share == NIL:
                        continue
                    numbers = [number for number in range(101) if best ** number <= frac(share)]
                    if numbers:
                        told["few"] += 1
                        self.assertEqual(rounds_needed(scenario, game, share), numbers[0])
                    elif best == 1:
                        told["none"] += 1
                        self.assertIsNone(rounds_needed(scenario, game, share))
                    else:
                        told["many"] += 1
                        self.refuses((errors.TooMany, "given", share), rounds_needed, scenario, game, share)
        self.assertGreater(min(told.values()), 5)

    def test_at_the_edge(self):
        """Just a hundred rounds, and one more."""
        exact = pair(Fraction(3, 4) ** 100)
        below = pair(Fraction(3, 4) ** 100 - Fraction(1, 10 ** 90))
        self.assertEqual(rounds_needed(BELL, GAME, exact), 100)
        self.refuses((errors.TooMany, "given", below), rounds_needed, BELL, GAME, below)
        self.assertEqual(rounds_needed(BELL, GAME, ONE), 0)
        self.assertEqual(rounds_needed(BELL, GAME, (3, 4)), 1)
        self.assertEqual(rounds_needed(BELL, GAME, (2999, 4000)), 2)
        lost, won = ((ONE,), ((0, 0),)), ((ONE,), ((1, 0),))
        self.assertEqual([rounds_needed(COIN, lost, share) for share in (ONE, HALF, (1, 10 ** 399))], [0, 1, 1])
        self.assertEqual([rounds_needed(COIN, won, share) for share in (ONE, HALF, (1, 10 ** 399))], [0, None, None])


class Calls(Case):
    def test_tail(self):
        for share in SHARES:
            self.holds(Spec(tail, [("number", 5), ("wins", 3), ("share", share)],
                            {"number": NO_COUNT, "wins": NO_COUNT, "share": NO_SHARE}))

    def test_is_plan(self):
        plan = ((0, 1, 0, 1), ((),) * 4)
        for value in (plan, list(plan), None, {}, [[]]):
            self.holds(Spec(is_plan, [("scenario", BELL), ("number", 1), ("value", value)],
                            {"scenario": NO_SCENARIO, "number": NO_COUNT}))

    def test_plan_chance(self):
        plan = ((0, 1, 0, 1), ((),) * 4)
        wrong = given(errors.InvalidPlan, [plan[:1], list(plan), None, (plan,), plan + ((),), 0, "plan", [], ((),)])
        self.holds(Spec(plan_chance, [("scenario", BELL), ("game", GAME), ("plan", plan), ("wins", 1)],
                        {"scenario": NO_SCENARIO, "game": NO_GAME, "plan": wrong, "wins": NO_COUNT}))

    def test_constant_plan(self):
        wrong = given(errors.InvalidSection, [
            (0, 0, 0), (0, 0, 0, 2), [0, 0, 0, 0], (0, 0, 0, True), None, 0, (), (0, 0, 0, 0, 0), "0000", (0, 0, 0,
                                                                                                           -1)])
        self.holds(Spec(constant_plan, [("scenario", BELL), ("number", 2), ("assignment", (0, 1, 0, 1))],
                        {"scenario": NO_SCENARIO, "number": NO_COUNT, "assignment": wrong},
                        [({"number": 6}, errors.TooMany, "given", 1365),
                         ({"number": 100}, errors.TooMany, "given", (4 ** 100 - 1) // 3)]))

    def test_of_logs(self):
        logs = indexed(errors.InvalidLog, [
            (LOG + ((0, (0, 2)),), 3), (None, None), (list(LOG), None), (LOG[:1] * 101, None), (((0, [0, 0]),), 0),
            (LOG + (None,), 3), ("ab", None), (((True, (0, 0)),), 0), (((0, (0, False)),), 0)])
        for function in (wins_of, level):
            for log in (LOG, ()):
                self.holds(Spec(function, [("scenario", BELL), ("game", GAME), ("log", log)],
                                {"scenario": NO_SCENARIO, "game": NO_GAME, "log": logs}))

    def test_rounds_needed(self):
        few = (1, 10 ** 60)
        self.holds(Spec(rounds_needed, [("scenario", BELL), ("game", GAME), ("share", (1, 100))],
                        {"scenario": NO_SCENARIO, "game": NO_GAME,
                         "share": NO_SHARE + given(errors.InvalidFraction, [NIL])},
                        [({"share": few}, errors.TooMany, "given", few)]))

    def test_any_value(self):
        for value in any_values():
            if not is_int(value) or not 0 <= value <= 100:
                for given_ones in ((value, 1, HALF), (1, value, HALF)):
                    self.refuses((errors.InvalidNumber, "given", value), tail, *given_ones)
                self.refuses((errors.InvalidNumber, "given", value), is_plan, BELL, value, ())
                self.refuses((errors.InvalidNumber, "given", value), constant_plan, BELL, value, None)
            if not own_is_fraction(value) or not 0 <= frac(value) <= 1:
                self.refuses((errors.InvalidFraction, "given", value), tail, 3, 1, value)
                self.refuses((errors.InvalidFraction, "given", value), rounds_needed, BELL, GAME, value)
            if not own_is_section(BELL, range(4), value):
                self.refuses((errors.InvalidSection, "given", value), constant_plan, BELL, 100, value)
            self.refuses((errors.InvalidGame, "given", value), level, BELL, value, ())
            self.refuses((errors.InvalidScenario, "given", value), rounds_needed, value, GAME, HALF)
            if value != ():
                self.assertIs(is_plan(BELL, 0, value), False)


class Shares(Case):
    def test_contexts_without_a_share(self):
        """What never comes may hold any plan."""
        game = ((NIL, ONE, NIL, NIL), GAME[1])
        plan = ((0, 0, 0, 0), (((1, 1, 1, 1), ((),) * 4), ((0, 0, 0, 1), ((),) * 4)) + (((0, 0, 0, 0), ((),) * 4),) * 2)
        self.assertEqual([plan_chance(BELL, game, plan, wins) for wins in (0, 1, 2)], [ONE, ONE, NIL])

    def test_quarters(self):
        game = ((QUARTER,) * 4, GAME[1])
        plan = constant_plan(BELL, 3, (0, 0, 0, 0))
        self.assertEqual([plan_chance(BELL, game, plan, wins) for wins in range(5)],
                         [ONE, (63, 64), (27, 32), (27, 64), NIL])


if __name__ == "__main__":
    unittest.main()
