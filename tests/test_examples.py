"""The examples of the document, to the letter."""

import unittest

from belltables.acyclic import (
    family_against, is_acyclic, is_obstruction, is_reduction, joint_along, obstruction, reduction)
from belltables.fractions import contextual_fraction, covering, is_covering, noncontextual_fraction, rest_of
from belltables.games import classical_value, game_value, most_value, no_signalling_value
from belltables.inequalities import dimension, greatest, is_facet, normal
from belltables.joint import is_noncontextual, joint_or_inequality, local_bound, value
from belltables.relabellings import canonical, led_inequality, relabellings
from belltables.scenarios import (
    family_of, is_family, is_no_signalling, is_scenario, marginal, mixture, sections_of)

nil, one, half, quarter, third = (0, 1), (1, 1), (1, 2), (1, 4), (1, 3)
bell = ((2, 2, 2, 2), ((0, 2), (0, 3), (1, 2), (1, 3)))
like, unlike = (half, nil, nil, half), (nil, half, half, nil)
box, flat = (like, like, like, unlike), (quarter,) * 4
chsh = ((one, (-1, 1), (-1, 1), one),) * 3 + (((-1, 1), one, one, (-1, 1)),)
coin = ((2,), ((0,),))


class Examples(unittest.TestCase):
    def test_scenarios(self):
        self.assertEqual(
            [is_scenario(bell), is_scenario(((2, 2), ((0,), (0, 1)))), sections_of(bell, (1, 3)), is_family(bell, box),
             is_no_signalling(bell, box)],
            [True, False, ((0, 0), (0, 1), (1, 0), (1, 1)), True, True])
        self.assertEqual(
            [marginal(bell, box, 3, (1,)), marginal(bell, box, 3, ()),
             is_no_signalling(bell, ((one, nil, nil, nil),) + box[1:]), mixture(bell, box, (like,) * 4, half)[3]],
            [((1, 2), (1, 2)), ((1, 1),), False, ((1, 4), (1, 4), (1, 4), (1, 4))])

    def test_joint(self):
        self.assertEqual(
            [local_bound(bell, chsh), value(bell, chsh, box), is_noncontextual(bell, box),
             is_noncontextual(bell, mixture(bell, box, (flat,) * 4, half)), joint_or_inequality(bell, box)[0]],
            [(2, 1), (4, 1), False, True, 'inequality'])
        self.assertEqual(joint_or_inequality(coin, ((quarter, (3, 4)),)), ('joint', ((1, 4), (3, 4))))

    def test_fractions(self):
        three = mixture(bell, box, (flat,) * 4, (3, 4))
        self.assertEqual(
            [contextual_fraction(bell, box), noncontextual_fraction(bell, box)[0], contextual_fraction(bell, three),
             contextual_fraction(bell, (like,) * 4)],
            [(1, 1), (0, 1), (1, 2), (0, 1)])
        self.assertEqual(
            [is_covering(bell, ((one, nil, nil, one),) * 3 + ((nil, one, one, nil),)), rest_of(bell, box) == box,
             rest_of(bell, (like,) * 4), value(bell, covering(bell, three), three)],
            [True, True, None, (1, 2)])

    def test_acyclic(self):
        path = ((2, 2, 2), ((0, 1), (1, 2)))
        self.assertEqual(
            [is_acyclic(bell), is_acyclic(path), reduction(bell), obstruction(path), obstruction(bell),
             joint_along(path, (like, like), ((0, 1),))],
            [False, True, None, None, ('cycle', (0, 2, 1, 3)),
             ((1, 2), (0, 1), (0, 1), (0, 1), (0, 1), (0, 1), (0, 1), (1, 2))])
        self.assertEqual(
            [family_against(bell, ('cycle', (0, 2, 1, 3))) == box[:1] + (unlike,) + box[:2],
             is_obstruction(bell, ('cycle', (0, 3, 1, 2))),
             family_against(((2, 2, 2), ((0, 1), (0, 2), (1, 2))), ('simplex', (0, 1, 2)))[2]],
            [True, False, ((0, 1), (1, 2), (1, 2), (0, 1))])
        self.assertTrue(is_reduction(path, ((0, 1),)))

    def test_games(self):
        game = ((quarter,) * 4, ((1, 0, 0, 1),) * 3 + ((0, 1, 1, 0),))
        self.assertEqual(
            [game_value(bell, game, box), classical_value(bell, game), no_signalling_value(bell, game)[0],
             most_value(bell, game, box)],
            [(1, 1), ((3, 4), (0, 0, 0, 0)), (1, 1), (1, 1)])

    def test_inequalities(self):
        won = ((one, nil, nil, one),) * 3 + ((nil, one, one, nil),)
        self.assertEqual(
            [dimension(bell), greatest(bell, won), is_facet(bell, (won, (3, 1))), is_facet(bell, (won, (4, 1))),
             normal(bell, (won, (3, 1)))],
            [8, ((3, 1), (0, 0, 0, 0)), True, False, ((-1, 1, 1, 0, 1, -1, -1, 0), 0)])
        led = led_inequality(bell, ((2, 3, 0, 1), ((1, 0),) * 4), (won, (3, 1)))
        self.assertEqual(
            [len(relabellings(bell)), canonical(bell, (won, (3, 1))) == canonical(bell, led)], [128, True])

    def test_mixture(self):
        self.assertEqual(mixture(coin, ((one, nil),), ((nil, one),), third), (((1, 3), (2, 3)),))
        self.assertEqual(family_of(coin, (third, (2, 3))), ((third, (2, 3)),))


if __name__ == "__main__":
    unittest.main()
