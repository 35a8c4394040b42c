"""The linear programs and ranks that others stand on, by the test's own sums."""

import unittest
from unittest import mock

from belltables import simplex
from belltables.ranks import rank_of
from belltables.simplex import exchange, solve
from tests.own import Maker, own_rank


class Programs(unittest.TestCase):
    def judge(self, rows, limits, goal):
        """Both sides keep their limits and have one sum: so there is none better."""
        kept = repr((rows, limits, goal))
        scale, parts, prices = solve(rows, limits, goal)
        self.assertEqual(repr((rows, limits, goal)), kept)
        self.assertGreater(scale, 0)
        self.assertEqual((len(parts), len(prices)), (len(goal), len(limits)))
        self.assertTrue(all(number >= 0 for number in parts + prices))
        for row, limit in zip(rows, limits):
            self.assertLessEqual(sum(a * b for a, b in zip(row, parts)), limit * scale)
        for column, number in enumerate(goal):
            self.assertGreaterEqual(sum(price * row[column] for price, row in zip(prices, rows)), number * scale)
        best = sum(a * b for a, b in zip(goal, parts))
        self.assertEqual(best, sum(a * b for a, b in zip(prices, limits)))
        return best, scale

    def test_random(self):
        maker = Maker(81)
        for _ in range(300):
            wide, high = maker.random.randint(1, 7), maker.random.randint(0, 9)
            top = maker.random.choice((1, 2, 9))
            rows = [[maker.random.randint(-top, top) for _ in range(wide)] for _ in range(high)]
            limits = [maker.random.choice((0, 0, 1, maker.random.randint(0, 9))) for _ in range(high)]
            at = maker.random.randint(0, high)
            rows.insert(at, [1] * wide)
            limits.insert(at, maker.random.randint(0, 5))
            self.judge(rows, limits, [maker.random.randint(-9, 9) for _ in range(wide)])

    def test_that_goes_round(self):
        """A program that goes round for ever where ties are settled by the first line, or by the last one."""
        rows = [[1, 1, 4, -8, -7], [4, 9, 1, -5, -4], [1, 1, 1, 1, 1]]
        goal = [12, -6, -12, -10, 0]
        steps = []

        def counted(table, at, column):
            steps.append(column)
            self.assertLess(len(steps), 1000)
            exchange(table, at, column)

        with mock.patch.object(simplex, "exchange", counted):
            for at in range(2):
                self.judge([rows[at], rows[1 - at], rows[2]], [0, 0, 1], goal)
        self.assertTrue(steps)

    def test_many_ties(self):
        maker = Maker(82)
        for _ in range(40):
            wide = maker.random.randint(3, 9)
            rows = [[maker.random.choice((-1, 0, 0, 1)) for _ in range(wide)] for _ in range(12)] + [[1] * wide]
            self.judge(rows, [0] * 12 + [1], [maker.random.randint(-1, 2) for _ in range(wide)])

    def test_nothing(self):
        self.assertEqual(self.judge([], [], []), (0, 1))
        self.assertEqual(self.judge([[], []], [3, 0], []), (0, 1))
        self.assertEqual(self.judge([[1, 1]], [0], [1, 1])[0], 0)
        self.assertEqual(self.judge([[2, 3]], [7], [-1, 0])[0], 0)


class Ranks(unittest.TestCase):
    def test_random(self):
        maker = Maker(83)
        for _ in range(200):
            wide, high = maker.random.randint(1, 7), maker.random.randint(0, 8)
            rows = [[maker.random.choice((-2, -1, 0, 0, 0, 1, 3)) for _ in range(wide)] for _ in range(high)]
            kept = repr(rows)
            self.assertEqual(rank_of(rows), own_rank(rows))
            self.assertEqual(repr(rows), kept)

    def test_known(self):
        self.assertEqual(rank_of([]), 0)
        self.assertEqual(rank_of([[0, 0], [0, 0]]), 0)
        self.assertEqual(rank_of([[10 ** 40, 1], [10 ** 40, 1]]), 1)
        self.assertEqual(rank_of([[10 ** 40, 1], [10 ** 40 + 1, 1]]), 2)


if __name__ == "__main__":
    unittest.main()
