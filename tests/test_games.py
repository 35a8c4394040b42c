"""[14] to [17]: games and their classical and no-signalling values, with bounds."""

import unittest
from fractions import Fraction
from itertools import combinations

from belltables.acyclic import family_against, obstruction
from belltables.fractions import noncontextual_fraction
from belltables.games import (
    classical_value, game_value, is_bound_of, is_game, most_value, no_signalling_value)
from tests.own import (
    BELL, BOX, COIN, FLAT, GAME, LARGE, LIKE, NIL, ONE, SMALL, TRIANGLE, Maker, any_values, frac, fracs, mix,
    one_thing_wrong, own_agreed, own_sums, own_value, pair, pairs, point, ring, secs, worlds)

RIGHT_SHARES, RIGHT_WINS = GAME


def lines(game):
    """The game as weights."""
    return pairs([[frac(share) * mark for mark in row] for share, row in zip(*game)])


def own_bound_kept(scenario, game, bound):
    """The lines of [16], word by word."""
    contexts = scenario[1]
    tables = dict(zip(combinations(range(len(contexts)), 2), bound[1]))
    for one, context in enumerate(contexts):
        for section, mark in zip(secs(scenario, context), game[1][one]):
            told = dict(zip(context, section))
            most = frac(bound[0][one])
            for other in range(len(contexts)):
                if other == one:
                    continue
                low, high = min(one, other), max(one, other)
                lot = tuple(x for x in contexts[low] if x in contexts[high])
                numbers = dict(zip(secs(scenario, lot), tables[(low, high)]))
                number = frac(numbers[tuple(told[x] for x in lot)])
                most += number if other > one else -number
            if (frac(game[0][one]) if mark else 0) > most:
                return False
    return True


def lost_by_a_ring(scenario):
    """The game that the family of the scenario's obstruction wins surely."""
    box = family_against(scenario, obstruction(scenario))
    many = len(scenario[1])
    return (((1, many),) * many, tuple(tuple(int(number != NIL) for number in row) for row in box)), box


class Forms(unittest.TestCase):
    def test_right(self):
        maker = Maker(41)
        self.assertIs(is_game(BELL, GAME), True)
        self.assertIs(is_game(COIN, ((ONE,), ((0, 0),))), True)
        self.assertIs(is_game(BELL, ((ONE, NIL, NIL, NIL), ((1,) * 4,) * 4)), True)
        for scenario in SMALL + LARGE:
            self.assertIs(is_game(scenario, maker.game(scenario)), True)

    def test_wrong_in_one_thing(self):
        for shares in one_thing_wrong(RIGHT_SHARES):
            self.assertIs(is_game(BELL, (shares, RIGHT_WINS)), False, shares)
        row = (1, 0, 0, 1)
        wrong_rows = [list(row), row[1:], row + (0,), (True, 0, 0, 1), (1, False, 0, 1), (2, 0, 0, 1), (-1, 0, 0, 1),
                      ("1", 0, 0, 1), (None, 0, 0, 1), ((1,), 0, 0, 1), (ONE, NIL, NIL, ONE), "1001", b"1001", 1, None,
                      (row,), ()]
        for wrong in wrong_rows:
            for at in range(4):
                wins = RIGHT_WINS[:at] + (wrong,) + RIGHT_WINS[at + 1:]
                self.assertIs(is_game(BELL, (RIGHT_SHARES, wins)), False, wrong)
        for wins in (RIGHT_WINS[:3], RIGHT_WINS + (row,), list(RIGHT_WINS), (), None, row):
            self.assertIs(is_game(BELL, (RIGHT_SHARES, wins)), False, wins)
        for wrong in (list(GAME), GAME + ((),), GAME[:1], (GAME,), GAME[::-1], {0: GAME[0], 1: GAME[1]}, None):
            self.assertIs(is_game(BELL, wrong), False, wrong)

    def test_any_value(self):
        for value in any_values():
            self.assertIs(is_game(BELL, value), False)
            self.assertIs(is_game(BELL, (value, RIGHT_WINS)), False)
            self.assertIs(is_game(BELL, (RIGHT_SHARES, value)), False)
            self.assertIs(is_game(COIN, ((value,), ((0, 1),))), repr(value) == "(1, 1)")
            is_row = repr(value) in ("(0, 0)", "(0, 1)", "(1, 0)", "(1, 1)")
            self.assertIs(is_game(COIN, ((ONE,), (value,))), is_row, value)
            self.assertIs(is_game(COIN, ((ONE,), ((value, 0),))), repr(value) in ("0", "1"), value)


class Values(unittest.TestCase):
    def test_game_value(self):
        maker = Maker(42)
        for scenario in SMALL + LARGE:
            game, family = maker.game(scenario), maker.joint_family(scenario, 9, 30)
            self.assertEqual(game_value(scenario, game, family), pair(own_value(lines(game), family)))
        self.assertEqual(game_value(BELL, GAME, mix(BOX, FLAT, Fraction(1, 3))), (2, 3))

    def test_classical_value(self):
        maker = Maker(43)
        for scenario in SMALL + LARGE:
            for _ in range(3):
                game = maker.game(scenario)
                sums = own_sums(scenario, lines(game))
                best = max(sums)
                told = classical_value(scenario, game)
                self.assertEqual(told, (pair(best), worlds(scenario)[sums.index(best)]))
                self.assertEqual(game_value(scenario, game, point(scenario, told[1])), told[0])
        self.assertEqual(classical_value(COIN, ((ONE,), ((0, 1),))), ((1, 1), (1,)))
        self.assertEqual(classical_value(COIN, ((ONE,), ((0, 0),))), ((0, 1), (0,)))
        self.assertEqual(classical_value(COIN, ((ONE,), ((1, 1),))), ((1, 1), (0,)))


class NoSignalling(unittest.TestCase):
    def judge(self, scenario, game):
        """Family and bound have the same number, so both are the best ones."""
        told = no_signalling_value(scenario, game)
        self.assertEqual(len(told), 3)
        number, family, bound = told
        self.assertEqual(family, pairs(fracs(family)))
        self.assertEqual([len(row) for row in family], [len(secs(scenario, context)) for context in scenario[1]])
        self.assertTrue(all(sum(row) == 1 and min(row) >= 0 for row in fracs(family)))
        self.assertTrue(own_agreed(scenario, family))
        self.assertEqual(pair(own_value(lines(game), family)), number)
        self.assertEqual(bound, (pairs(fracs([bound[0]]))[0], pairs(fracs(bound[1]))))
        self.assertEqual(len(bound[0]), len(scenario[1]))
        self.assertEqual(pair(sum(fracs([bound[0]])[0])), number)
        self.assertTrue(own_bound_kept(scenario, game, bound))
        self.assertIs(is_bound_of(scenario, game, bound), True)
        number = frac(number)
        self.assertLessEqual(frac(classical_value(scenario, game)[0]), number)
        self.assertLessEqual(number, 1)
        return number, family, bound

    def test_games(self):
        maker = Maker(44)
        for scenario in SMALL + LARGE:
            self.judge(scenario, maker.game(scenario))

    def test_harder_games(self):
        """Nearly those that an obstruction wins: the values lie above the classical ones, and below 1 at times."""
        maker, above, below = Maker(45), 0, 0
        cases = [scenario for scenario in SMALL + LARGE if obstruction(scenario) is not None]
        for scenario in cases:
            for _ in range(8):
                wins = [list(row) for row in lost_by_a_ring(scenario)[0][1]]
                for _ in range(maker.random.randint(0, 3)):
                    row = maker.random.choice(wins)
                    row[maker.random.randrange(len(row))] = maker.random.randint(0, 1)
                game = (maker.row(len(scenario[1])), tuple(tuple(row) for row in wins))
                number = self.judge(scenario, game)[0]
                above += number > frac(classical_value(scenario, game)[0])
                below += frac(classical_value(scenario, game)[0]) < number < 1
        self.assertGreater(above, 20)
        self.assertGreater(below, 3)

    def test_won_surely(self):
        tailed = ((2, 2, 2, 2), ((0, 1), (0, 2), (1, 2), (2, 3)))
        for scenario in [BELL, TRIANGLE, ring(5), ring(6), ((3, 2, 3, 2), BELL[1]), tailed]:
            game, box = lost_by_a_ring(scenario)
            number = self.judge(scenario, game)[0]
            self.assertEqual(number, 1)
            self.assertEqual(game_value(scenario, game, box), (1, 1))
            self.assertLess(frac(classical_value(scenario, game)[0]), 1)

    def test_between(self):
        """Alike at three, but at the last one both 1, or 0 and 1: values between the classical one and 1."""
        game = (RIGHT_SHARES, ((1, 0, 0, 0), (1, 0, 0, 1), (1, 0, 0, 1), (0, 1, 1, 0)))
        number = self.judge(BELL, game)[0]
        self.assertLess(number, 1)
        self.assertGreaterEqual(number, frac(classical_value(BELL, game)[0]))

    def test_nothing_and_all_won(self):
        for scenario in SMALL:
            many = len(scenario[1])
            for mark in (0, 1):
                wins = tuple((mark,) * len(secs(scenario, context)) for context in scenario[1])
                self.assertEqual(self.judge(scenario, (((1, many),) * many, wins))[0], mark)

    def test_unlike_shares(self):
        for top in range(11):
            share = Fraction(top, 10)
            shares = (pair(share / 2), pair(share / 2), pair((1 - share) / 2), pair((1 - share) / 2))
            number = self.judge(BELL, (shares, RIGHT_WINS))[0]
            self.assertEqual(number, 1)

    def test_large_numbers(self):
        maker = Maker(46)
        shares = maker.row(4, 10 ** 150)
        self.assertEqual(self.judge(BELL, (shares, RIGHT_WINS))[0], 1)
        self.judge(TRIANGLE, (maker.row(3, 10 ** 150), ((1, 0, 0, 0), (0, 1, 0, 0), (0, 0, 1, 1))))


class Bounds(unittest.TestCase):
    def raised(self, bound, at, more):
        """The bound with its number at this place, counted through A and all of U, raised."""
        rows = [list(bound[0])] + [list(row) for row in bound[1]]
        for row in rows:
            if at < len(row):
                row[at] = pair(frac(row[at]) + more)
                return (tuple(rows[0]), tuple(tuple(row) for row in rows[1:]))
            at -= len(row)
        return None

    def test_one_number_off(self):
        maker, told = Maker(47), set()
        for scenario in SMALL:
            for game in (maker.game(scenario), (maker.row(len(scenario[1])), tuple(
                    tuple(int(maker.random.randrange(3) == 0) for _ in secs(scenario, context))
                    for context in scenario[1]))):
                bound = no_signalling_value(scenario, game)[2]
                many = len(bound[0]) + sum(len(row) for row in bound[1])
                for at in range(many):
                    for more in (Fraction(1, 10 ** 20), Fraction(-1, 10 ** 20), Fraction(1), Fraction(-1)):
                        other = self.raised(bound, at, more)
                        expected = own_bound_kept(scenario, game, other)
                        told.add((more < 0, at < len(bound[0]), expected))
                        self.assertIs(is_bound_of(scenario, game, other), expected)
        self.assertIn((True, True, False), told)
        self.assertIn((True, False, False), told)
        self.assertIn((False, False, False), told)
        self.assertIn((False, True, True), told)
        self.assertNotIn((False, True, False), told)

    def test_shape(self):
        bound = no_signalling_value(BELL, GAME)[2]
        first, rows = bound
        wrongs = [list(bound), bound + ((),), (first,), (list(first), rows), (first[:3], rows), (first + (ONE,), rows),
                  (first, list(rows)), (first, rows[:5]), (first, rows + ((NIL,),)), (rows, first), (first, ()),
                  (first, (rows[0][:1],) + rows[1:]), (first, (rows[0] + (NIL,),) + rows[1:]),
                  (first, rows[:2] + ((),) + rows[3:]), (first, (list(rows[0]),) + rows[1:]),
                  (((2, 2),) + first[1:], rows), (((True, 1),) + first[1:], rows), ((1,) + first[1:], rows),
                  (((1, 0),) + first[1:], rows), (first, (((2, 2), NIL),) + rows[1:]),
                  (first, ((NIL, (0, -1)),) + rows[1:])]
        for wrong in wrongs:
            self.assertIs(is_bound_of(BELL, GAME, wrong), False, wrong)
        self.assertIs(is_bound_of(BELL, GAME, ((ONE,) * 4, rows)), True)
        for value in any_values():
            self.assertIs(is_bound_of(BELL, GAME, value), False)
            self.assertIs(is_bound_of(BELL, GAME, (value, rows)), repr(value) == repr((ONE,) * 4)
                          or repr(value) == repr(((0, 1), (1, 1)) * 2))
            self.assertIs(is_bound_of(BELL, GAME, (first, value)), False)
            self.assertIs(is_bound_of(COIN, ((ONE,), ((0, 1),)), ((value,), ())), repr(value) == "(1, 1)")

    def test_one_context(self):
        game = ((ONE,), ((0, 1),))
        self.assertIs(is_bound_of(COIN, game, ((ONE,), ())), True)
        self.assertIs(is_bound_of(COIN, game, (((3, 4),), ())), False)
        self.assertIs(is_bound_of(COIN, game, ((ONE,), ((),))), False)

    def test_empty_overlap(self):
        """What two contexts that share nothing hand over is one number."""
        scenario = ((2, 2), ((0,), (1,)))
        game = (((1, 2), (1, 2)), ((1, 0), (1, 1)))
        self.assertIs(is_bound_of(scenario, game, (((1, 2), (1, 2)), ((NIL,),))), True)
        self.assertIs(is_bound_of(scenario, game, (((1, 4), (3, 4)), (((1, 4),),))), True)
        self.assertIs(is_bound_of(scenario, game, (((3, 4), (1, 4)), (((-1, 4),),))), True)
        self.assertIs(is_bound_of(scenario, game, (((1, 4), (3, 4)), ((NIL,),))), False)
        self.assertIs(is_bound_of(scenario, game, (((1, 4), (3, 4)), (((-1, 4),),))), False)
        self.assertIs(is_bound_of(scenario, game, (((1, 4), (3, 4)), (((1, 3),),))), False)


class Most(unittest.TestCase):
    def test_most_value(self):
        maker = Maker(48)
        for scenario in (BELL, TRIANGLE, ring(5), ((3, 2, 2), TRIANGLE[1])):
            box = family_against(scenario, obstruction(scenario))
            for top in (0, 2, 5, 9, 10):
                for game in (lost_by_a_ring(scenario)[0], maker.game(scenario)):
                    family = mix(box, maker.joint_family(scenario), Fraction(top, 10))
                    weight = frac(noncontextual_fraction(scenario, family)[0])
                    expected = weight * frac(classical_value(scenario, game)[0]) + (
                        1 - weight) * frac(no_signalling_value(scenario, game)[0])
                    told = most_value(scenario, game, family)
                    self.assertEqual(told, pair(expected))
                    self.assertLessEqual(frac(game_value(scenario, game, family)), frac(told))

    def test_line_to_the_box(self):
        for top in range(9):
            share = Fraction(top, 8)
            family = mix(BOX, (LIKE,) * 4, share)
            self.assertEqual(most_value(BELL, GAME, family), pair(share + (1 - share) * Fraction(3, 4)))
        self.assertEqual(most_value(BELL, GAME, FLAT), (3, 4))


if __name__ == "__main__":
    unittest.main()
