"""[39], [40]: dice, rounds, logs, counts, tables, the chance of a log, gaps."""

import unittest
from fractions import Fraction
from itertools import combinations
from math import lcm, prod

from belltables import errors
from belltables.logs import counts, gaps, log_chance, pick, play, play_joint, tables
from belltables.scenarios import is_no_signalling
from tests.harness import Case, Spec
from tests.own import (
    BELL, BOX, COIN, FLAT, HALF, LARGE, LIKE, NIL, ONE, QUARTER, SMALL, THIRD, Maker, any_values, bent, frac, is_int,
    one_thing_wrong, own_family, own_is_row, own_is_section, own_marginal, pair, part, secs, worlds)
from tests.test_arguments import DISTRIBUTION, NO_DISTRIBUTION, NO_FAMILY, NO_SCENARIO, SIGNALLING, given, indexed

TOP = 10 ** 60 - 1
ROUNDS = ((0, 0), (0, 1), (3, 5), (1, TOP))
LOG = ((0, (0, 0)), (0, (1, 1)), (3, (1, 0)))


def own_pick(row, die):
    """The index by the numbers' sums, laid out one behind the other."""
    numbers = [frac(number) for number in row]
    many = lcm(*(number.denominator for number in numbers))
    so_far = Fraction(0)
    for at, number in enumerate(numbers):
        so_far += number
        if so_far * many > die % many:
            return at
    raise AssertionError


def own_is_round(scenario, value):
    return (type(value) is tuple and len(value) == 2 and is_int(value[0]) and 0 <= value[0] < len(scenario[1])
            and is_int(value[1]) and 0 <= value[1] <= TOP)


def own_is_entry(scenario, value):
    return (type(value) is tuple and len(value) == 2 and is_int(value[0]) and 0 <= value[0] < len(scenario[1])
            and own_is_section(scenario, scenario[1][value[0]], value[1]))


def first_wrong(is_right, value):
    """None for no tuple of up to 400; the first wrong one's index; True if nothing is wrong."""
    if type(value) is not tuple or len(value) > 400:
        return None
    return next((at for at, told in enumerate(value) if not is_right(told)), True)


def drawn_log(maker, scenario, many):
    found = []
    for _ in range(many):
        at = maker.random.randrange(len(scenario[1]))
        found.append((at, maker.random.choice(secs(scenario, scenario[1][at]))))
    return tuple(found)


def drawn_rounds(maker, scenario, many):
    return tuple((maker.random.randrange(len(scenario[1])), maker.random.choice(
        (maker.random.randrange(20), maker.random.randrange(TOP), TOP))) for _ in range(many))


class Picks(Case):
    def test_follow_one_another(self):
        """Of any N dice each index is picked as often as its number times N."""
        maker = Maker(171)
        rows = [(HALF, NIL, NIL, HALF), (ONE,), (NIL, ONE), (THIRD, HALF, (1, 6)), (NIL, THIRD, NIL, (2, 3), NIL)]
        rows += [maker.row(maker.random.randint(1, 9), 9, 20) for _ in range(20)] + [maker.row(64, 3, 30)]
        for row in rows:
            many = lcm(*(bottom for _, bottom in row))
            for first in (0, 1, maker.random.randrange(10 ** 6), maker.random.randrange(10 ** 59), TOP + 1 - many):
                picked = [pick(row, first + more) for more in range(many)]
                self.assertEqual([picked.count(at) for at in range(len(row))], [frac(number) * many for number in row])
                self.assertEqual(picked, [own_pick(row, first + more) for more in range(many)])

    def test_bounds(self):
        for die, is_right in ((0, True), (TOP, True), (TOP + 1, False), (-1, False), (True, False), (False, False),
                              (None, False), ("1", False), ((1,), False), (10 ** 399, False)):
            if is_right:
                self.assertEqual(pick((HALF, HALF), die), die % 2)
            else:
                self.refuses((errors.InvalidNumber, "given", die), pick, (HALF, HALF), die)
                self.assertIs(first_wrong(lambda told: own_is_round(BELL, told), ((0, die),)) is True, False)
                self.refuses((errors.InvalidRounds, "index", 0), play, BELL, BOX, ((0, die),))
        self.assertEqual(pick((NIL, HALF, NIL, HALF), 0), 1)
        self.assertEqual(pick((NIL, NIL, ONE, NIL), TOP), 2)

    def test_rows(self):
        self.assertEqual(pick(((1, 64),) * 64, 63), 63)
        wrong = [row for row in one_thing_wrong((HALF, QUARTER, QUARTER)) if row != (HALF, QUARTER, QUARTER, NIL)]
        for row in wrong + [(), ((1, 65),) * 65, (ONE, ONE), (NIL,), BOX]:
            self.refuses((errors.InvalidRow, "given", row), pick, row, 3)
        for value in any_values() + bent((HALF, NIL, HALF)):
            for row in (value, (value,), (value, HALF)):
                if not own_is_row(row, len(row) if isinstance(row, tuple) else 0) or row == ():
                    self.refuses((errors.InvalidRow, "given", row), pick, row, 3)
            if not is_int(value) or not 0 <= value <= TOP:
                self.refuses((errors.InvalidNumber, "given", value), pick, (HALF, HALF), value)

    def test_great_denominators(self):
        many = 10 ** 100 + 267
        row = ((1, many), (many - 2, many), (1, many))
        self.assertEqual([pick(row, die) for die in (0, 1, TOP)], [0, 1, 1])


class Runs(Case):
    def test_play(self):
        maker = Maker(172)
        for scenario in SMALL + LARGE:
            for zeros in (0, 60):
                family = maker.family(scenario, 9, zeros)
                rounds = drawn_rounds(maker, scenario, 30)
                log = play(scenario, family, rounds)
                self.assertEqual(log, tuple((at, secs(scenario, scenario[1][at])[own_pick(family[at], die)])
                                            for at, die in rounds))

    def test_play_joint(self):
        maker = Maker(173)
        for scenario in SMALL + LARGE:
            for zeros in (0, 80):
                distribution = maker.distribution(scenario, 9, zeros)
                rounds = drawn_rounds(maker, scenario, 30)
                log, hidden = play_joint(scenario, distribution, rounds)
                own = [worlds(scenario)[own_pick(distribution, die)] for _, die in rounds]
                self.assertEqual(hidden, tuple(own))
                self.assertEqual(log, tuple((at, part(world, scenario[1][at])) for (at, _), world in zip(rounds, own)))

    def test_one_context(self):
        """Any N dice that follow one another, all for one context, log its row."""
        maker = Maker(174)
        for scenario in (BELL, SMALL[5], SMALL[7]):
            distribution = maker.distribution(scenario, 3, 50)
            family = own_family(scenario, [frac(number) for number in distribution])
            many = lcm(*(bottom for _, bottom in distribution))
            for at, context in enumerate(scenario[1]):
                first = maker.random.randrange(10 ** 30)
                log = ()
                for begin in range(0, many, 400):
                    rounds = tuple((at, first + more) for more in range(begin, min(many, begin + 400)))
                    log += play_joint(scenario, distribution, rounds)[0]
                often = [sum(told == section for _, told in log) for section in secs(scenario, context)]
                self.assertEqual(often, [number * many for number in family[at]])

    def test_none_and_many(self):
        self.assertEqual(play(BELL, BOX, ()), ())
        self.assertEqual(play_joint(BELL, DISTRIBUTION, ()), ((), ()))
        self.assertEqual(len(play(BELL, BOX, ((1, 2),) * 400)), 400)
        for function, second in ((play, BOX), (play_joint, DISTRIBUTION)):
            self.refuses((errors.InvalidRounds, "index", None), function, BELL, second, ((1, 2),) * 401)

    def test_rounds(self):
        for value in bent(ROUNDS) + [ROUNDS + ((4, 0),), ROUNDS + ((-1, 0),), ((0, 0, 0),), ((0,),), (0, 0), "ab",
                                     ((),)]:
            wrong = first_wrong(lambda told: own_is_round(BELL, told), value)
            for function, second in ((play, BOX), (play_joint, DISTRIBUTION)):
                if wrong is True:
                    self.assertTrue(function(BELL, second, value))
                else:
                    self.refuses((errors.InvalidRounds, "index", wrong), function, BELL, second, value)
        for value in any_values():
            for rounds in (value, (value,), ROUNDS + (value, None), ((value, 0),), ((0, value),)):
                wrong = first_wrong(lambda told: own_is_round(BELL, told), rounds)
                if wrong is not True:
                    self.refuses((errors.InvalidRounds, "index", wrong), play, BELL, BOX, rounds)


def own_counts(scenario, log):
    return tuple(tuple(sum(told == (at, section) for told in log) for section in secs(scenario, context))
                 for at, context in enumerate(scenario[1]))


def own_tables(scenario, log):
    return tuple(tuple(pair(Fraction(many, sum(row))) for many in row) if sum(row) else None
                 for row in own_counts(scenario, log))


class Logs(Case):
    def test_counts_and_tables(self):
        maker = Maker(175)
        for scenario in SMALL + LARGE:
            for many in (0, 1, 7, 60):
                log = drawn_log(maker, scenario, many)
                self.assertEqual(counts(scenario, log), own_counts(scenario, log))
                self.assertEqual(tables(scenario, log), own_tables(scenario, log))
        self.assertEqual(tables(COIN, ()), (None,))
        self.assertEqual(counts(COIN, ()), ((0, 0),))

    def test_chances(self):
        maker = Maker(176)
        for scenario in SMALL + LARGE:
            for many in (0, 1, 5, 40):
                log = drawn_log(maker, scenario, many)
                for family in (maker.family(scenario), maker.family(scenario, 9, 50), maker.joint_family(scenario)):
                    numbers = [dict(zip(secs(scenario, context), row)) for context, row in zip(scenario[1], family)]
                    own = prod((frac(numbers[at][section]) for at, section in log), start=Fraction(1))
                    self.assertEqual(log_chance(scenario, family, log), pair(own))
        self.assertEqual(log_chance(BELL, BOX, ()), ONE)
        self.assertEqual(log_chance(BELL, FLAT, LOG * 100), (1, 4 ** 300))

    def test_gibbs(self):
        """No family makes the log likelier than those that have its tables."""
        maker = Maker(177)
        for scenario in SMALL:
            for many in (1, 6, 25):
                log = drawn_log(maker, scenario, many)
                mine = tables(scenario, log)
                best = tuple(row if row is not None else other
                             for row, other in zip(mine, maker.family(scenario)))
                top = frac(log_chance(scenario, best, log))
                for _ in range(6):
                    family = maker.family(scenario)
                    share = Fraction(maker.random.randint(1, 9), 10)
                    near = tuple(tuple(pair(share * frac(a) + (1 - share) * frac(b)) for a, b in zip(*rows))
                                 for rows in zip(best, family))
                    for other in (family, near):
                        number = frac(log_chance(scenario, other, log))
                        self.assertLessEqual(number, top)
                        is_same = all(row is None or row == line for row, line in zip(mine, other))
                        self.assertEqual(number == top, is_same)

    def test_gaps(self):
        maker = Maker(178)
        some = 0
        for scenario in SMALL + LARGE:
            for many in (0, 1, 3, 30):
                log = drawn_log(maker, scenario, many)
                mine = own_tables(scenario, log)
                own = []
                for i, j in combinations(range(len(mine)), 2):
                    if mine[i] is None or mine[j] is None:
                        continue
                    lot = tuple(x for x in scenario[1][i] if x in scenario[1][j])
                    first = own_marginal(scenario, mine[i], scenario[1][i], lot)
                    second = own_marginal(scenario, mine[j], scenario[1][j], lot)
                    own.append((i, j, pair(sum(abs(a - b) for a, b in zip(first, second)) / 2)))
                self.assertEqual(gaps(scenario, log), tuple(own))
                some += len(own)
                if None not in mine:
                    self.assertEqual(all(gap == NIL for _, _, gap in own), is_no_signalling(scenario, mine))
        self.assertGreater(some, 300)
        self.assertEqual(gaps(BELL, ()), ())
        self.assertEqual(gaps(BELL, ((0, (0, 0)), (1, (1, 0)))), ((0, 1, ONE),))
        self.assertEqual(gaps(BELL, ((2, (0, 0)), (1, (1, 0)))), ((1, 2, NIL),))

    def test_bounds(self):
        """400 pairs, and none; not 401."""
        log = ((0, (0, 1)),) * 400
        self.assertEqual(counts(BELL, log)[0], (0, 400, 0, 0))
        self.assertEqual(log_chance(BELL, FLAT, log), (1, 4 ** 400))
        self.assertEqual(gaps(BELL, log), ())
        for function, arguments in ((counts, ()), (tables, ()), (gaps, ()), (log_chance, (FLAT,))):
            self.refuses((errors.InvalidLog, "index", None), function, BELL, *arguments, log + log[:1])

    def test_wrong_logs(self):
        for value in bent(LOG) + [LOG + ((0, (0, 2)),), ((0, (0,)),), ((4, (0, 0)),), ((-1, (0, 0)),), (LOG,), LOG[0]]:
            wrong = first_wrong(lambda told: own_is_entry(BELL, told), value)
            for function, arguments in ((counts, ()), (tables, ()), (gaps, ()), (log_chance, (FLAT,))):
                if wrong is True:
                    function(BELL, *arguments, value)
                else:
                    self.refuses((errors.InvalidLog, "index", wrong), function, BELL, *arguments, value)
        for value in any_values():
            for log in (value, (value,), LOG + (value, None), ((value, (0, 0)),), ((0, value),), ((0, (0, value)),)):
                wrong = first_wrong(lambda told: own_is_entry(BELL, told), log)
                if wrong is not True:
                    self.refuses((errors.InvalidLog, "index", wrong), counts, BELL, log)


class Calls(Case):
    def test_all(self):
        rows = given(errors.InvalidRow, [(), (HALF,), [ONE], None, (ONE, NIL, (1, -1)), ((1, 65),) * 65, 1])
        dice = given(errors.InvalidNumber, [-1, TOP + 1, True, None, "0", (0,)])
        self.holds(Spec(pick, [("row", (HALF, HALF)), ("die", 7)], {"row": rows, "die": dice}))
        rounds = indexed(errors.InvalidRounds, [
            (ROUNDS + ((4, 0),), 4), (None, None), (list(ROUNDS), None), (((0, 0),) * 401, None), (((0, -1),), 0),
            (((0, 0), None), 1), ("ab", None), (((0, True),), 0)])
        for family in (BOX, SIGNALLING):
            self.holds(Spec(play, [("scenario", BELL), ("family", family), ("rounds", ROUNDS)],
                            {"scenario": NO_SCENARIO, "family": NO_FAMILY, "rounds": rounds}))
        self.holds(Spec(play_joint, [("scenario", BELL), ("distribution", DISTRIBUTION), ("rounds", ROUNDS)],
                        {"scenario": NO_SCENARIO, "distribution": NO_DISTRIBUTION, "rounds": rounds}))
        logs = indexed(errors.InvalidLog, [
            (LOG + ((0, (0, 2)),), 3), (None, None), (list(LOG), None), (LOG[:1] * 401, None), (((0, [0, 0]),), 0),
            (LOG + (None,), 3), ("ab", None), (((True, (0, 0)),), 0), (((0, (0, False)),), 0)])
        for function in (counts, tables, gaps):
            for log in (LOG, ()):
                self.holds(Spec(function, [("scenario", BELL), ("log", log)],
                                {"scenario": NO_SCENARIO, "log": logs}))
        for family in (BOX, SIGNALLING, (LIKE,) * 4):
            self.holds(Spec(log_chance, [("scenario", BELL), ("family", family), ("log", LOG)],
                            {"scenario": NO_SCENARIO, "family": NO_FAMILY, "log": logs}))


if __name__ == "__main__":
    unittest.main()
