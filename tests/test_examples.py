"""The examples of the document, to the letter."""

import unittest

from belltables.acyclic import (
    family_against, is_acyclic, is_obstruction, is_reduction, joint_along, obstruction, reduction)
from belltables.consoles import Console
from belltables.desks import Desk
from belltables.fractions import contextual_fraction, covering, is_covering, noncontextual_fraction, rest_of
from belltables.games import classical_value, game_value, most_value, no_signalling_value
from belltables.errors import InUse, NoSection, NotSettled, TwiceNamed
from belltables.inequalities import dimension, greatest, is_facet, normal
from belltables.joint import is_noncontextual, joint_or_inequality, local_bound, value
from belltables.labs import family_in, is_lab, is_settled, joint_in, open_share
from belltables.language import lab_text, read_lab
from belltables.logs import counts, gaps, log_chance, pick, play, play_joint, tables
from belltables.markings import bases_of, marking, odd_bases, orthogonal_pairs
from belltables.memory import constant_plan, is_plan, level, plan_chance, rounds_needed, tail, wins_of
from belltables.parity import is_argument, parity_rows, solved_or_odd
from belltables.paulis import (
    do_commute, family_or_odd, group_of, mean_of, pauli_family, pauli_product, pauli_rows, valued_or_odd)
from belltables.possible import contextuality_of, extending, extension, family_with, hardy, is_consistent, non_extending
from belltables.relabellings import canonical, led_inequality, relabellings
from belltables.scenarios import (
    family_of, is_family, is_no_signalling, is_scenario, marginal, mixture, sections_of)
from belltables.wirings import beside, beside_families, is_wiring, wired
from tests.harness import Case

nil, one, half, quarter, third = (0, 1), (1, 1), (1, 2), (1, 4), (1, 3)
bell = ((2, 2, 2, 2), ((0, 2), (0, 3), (1, 2), (1, 3)))
like, unlike = (half, nil, nil, half), (nil, half, half, nil)
box, flat = (like, like, like, unlike), (quarter,) * 4
chsh = ((one, (-1, 1), (-1, 1), one),) * 3 + (((-1, 1), one, one, (-1, 1)),)
coin = ((2,), ((0,),))
same, other_way = ((0, 0), (1, 1)), ((0, 1), (1, 0))
signs = (same, same, same, other_way)
paradox = (
    ((0, 0), (0, 1), (1, 0), (1, 1)), ((0, 0), (1, 0), (1, 1)), ((0, 0), (0, 1), (1, 1)), ((0, 1), (1, 0), (1, 1)))


class Examples(Case):
    def test_scenarios(self):
        self.assertEqual(
            [is_scenario(bell), is_scenario(((2, 2), ((0,), (0, 1)))), sections_of(bell, (1, 3)), is_family(bell, box),
             is_no_signalling(bell, box)],
            [True, False, ((0, 0), (0, 1), (1, 0), (1, 1)), True, True])
        self.assertEqual(
            [marginal(bell, box, 3, (1,)), marginal(bell, box, 3, ()),
             is_no_signalling(bell, ((one, nil, nil, nil),) + box[1:]), mixture(bell, box, (like,) * 4, half)[3]],
            [((1, 2), (1, 2)), ((1, 1),), False, ((1, 4), (1, 4), (1, 4), (1, 4))])

    def test_joint(self):
        self.assertEqual(
            [local_bound(bell, chsh), value(bell, chsh, box), is_noncontextual(bell, box),
             is_noncontextual(bell, mixture(bell, box, (flat,) * 4, half)), joint_or_inequality(bell, box)[0]],
            [(2, 1), (4, 1), False, True, 'inequality'])
        self.assertEqual(joint_or_inequality(coin, ((quarter, (3, 4)),)), ('joint', ((1, 4), (3, 4))))

    def test_fractions(self):
        three = mixture(bell, box, (flat,) * 4, (3, 4))
        self.assertEqual(
            [contextual_fraction(bell, box), noncontextual_fraction(bell, box)[0], contextual_fraction(bell, three),
             contextual_fraction(bell, (like,) * 4)],
            [(1, 1), (0, 1), (1, 2), (0, 1)])
        self.assertEqual(
            [is_covering(bell, ((one, nil, nil, one),) * 3 + ((nil, one, one, nil),)), rest_of(bell, box) == box,
             rest_of(bell, (like,) * 4), value(bell, covering(bell, three), three)],
            [True, True, None, (1, 2)])

    def test_acyclic(self):
        path = ((2, 2, 2), ((0, 1), (1, 2)))
        self.assertEqual(
            [is_acyclic(bell), is_acyclic(path), reduction(bell), obstruction(path), obstruction(bell),
             joint_along(path, (like, like), ((0, 1),))],
            [False, True, None, None, ('cycle', (0, 2, 1, 3)),
             ((1, 2), (0, 1), (0, 1), (0, 1), (0, 1), (0, 1), (0, 1), (1, 2))])
        self.assertEqual(
            [family_against(bell, ('cycle', (0, 2, 1, 3))) == box[:1] + (unlike,) + box[:2],
             is_obstruction(bell, ('cycle', (0, 3, 1, 2))),
             family_against(((2, 2, 2), ((0, 1), (0, 2), (1, 2))), ('simplex', (0, 1, 2)))[2]],
            [True, False, ((0, 1), (1, 2), (1, 2), (0, 1))])
        self.assertTrue(is_reduction(path, ((0, 1),)))

    def test_games(self):
        game = ((quarter,) * 4, ((1, 0, 0, 1),) * 3 + ((0, 1, 1, 0),))
        self.assertEqual(
            [game_value(bell, game, box), classical_value(bell, game), no_signalling_value(bell, game)[0],
             most_value(bell, game, box)],
            [(1, 1), ((3, 4), (0, 0, 0, 0)), (1, 1), (1, 1)])

    def test_inequalities(self):
        won = ((one, nil, nil, one),) * 3 + ((nil, one, one, nil),)
        self.assertEqual(
            [dimension(bell), greatest(bell, won), is_facet(bell, (won, (3, 1))), is_facet(bell, (won, (4, 1))),
             normal(bell, (won, (3, 1)))],
            [8, ((3, 1), (0, 0, 0, 0)), True, False, ((-1, 1, 1, 0, 1, -1, -1, 0), 0)])
        led = led_inequality(bell, ((2, 3, 0, 1), ((1, 0),) * 4), (won, (3, 1)))
        self.assertEqual(
            [len(relabellings(bell)), canonical(bell, (won, (3, 1))) == canonical(bell, led)], [128, True])

    def test_wirings(self):
        first, then = ("tell", 0), ("tell", 1)
        chase = ("measure", 0, (("measure", 2, (first, then)), ("measure", 3, (then, first))))
        self.assertEqual(
            [is_wiring(bell, coin, (chase,)), wired(bell, coin, (chase,), box),
             is_wiring(bell, coin, (("measure", 0, (("measure", 1, (first, then)), first)),))],
            [True, (((1, 1), (0, 1)),), False])
        self.assertEqual(
            [beside(coin, coin), beside_families(coin, ((half, half),), coin, ((third, (2, 3)),)),
             mixture(coin, ((one, nil),), ((nil, one),), third)],
            [((2, 2), ((0, 1),)), (((1, 6), (1, 3), (1, 6), (1, 3)),), (((1, 3), (2, 3)),)])

    def test_possible(self):
        self.assertEqual(
            [contextuality_of(bell, signs), extending(bell, signs), is_consistent(bell, signs),
             family_with(bell, signs) == ("family", ((half, nil, nil, half),) * 3 + ((nil, half, half, nil),))],
            ['strongly contextual', (), True, True])
        self.assertEqual(
            [contextuality_of(bell, paradox), non_extending(bell, paradox), extension(bell, paradox, 0, (0, 1)),
             hardy(bell, paradox)],
            ['logically contextual', ((0, (0, 0)),), (0, 1, 1, 0), ((0, (0, 0), (0,), (0,)),)])
        self.assertEqual(
            [family_with(bell, paradox)[0], family_with(bell, (same, same, same, ((0, 0), (0, 1), (1, 1))))[0],
             contextuality_of(bell, (same,) * 4)],
            ['family', 'barred', 'extends everywhere'])

    def test_parity(self):
        self.assertEqual(
            [parity_rows(bell, signs)[3], parity_rows(bell, paradox), solved_or_odd(bell, (same,) * 4)[0]],
            [(3, (1, 3), 1), (), 'solved'])
        told = solved_or_odd(bell, signs)
        self.assertEqual(told, ('odd', ((0, (0, 2), 0), (1, (0, 3), 0), (2, (1, 2), 0), (3, (1, 3), 1))))
        self.assertIs(is_argument(bell, told[1]), True)

    def test_markings(self):
        axes = ((1, 0, 0), (0, 1, 0), (0, 0, 1), (1, 1, 0))
        self.assertEqual(
            [orthogonal_pairs(axes), bases_of(axes), marking(axes)[0], odd_bases(axes)],
            [((0, 1), (0, 2), (1, 2), (2, 3)), ((0, 1, 2),), 'marked', None])
        cabello = (
            (0, 0, 0, 1), (0, 0, 1, 0), (1, 1, 0, 0), (1, -1, 0, 0), (0, 1, 0, 0), (1, 0, 1, 0), (1, 0, -1, 0),
            (1, -1, 1, -1), (1, -1, -1, 1), (0, 0, 1, 1), (1, 1, 1, 1), (0, 1, 0, -1), (1, 0, 0, 1), (1, 0, 0, -1),
            (0, 1, -1, 0), (1, 1, -1, 1), (1, 1, 1, -1), (-1, 1, 1, 1))
        self.assertEqual(
            [len(orthogonal_pairs(cabello)), len(bases_of(cabello)), odd_bases(cabello) == bases_of(cabello),
             marking(cabello)[0]],
            [63, 9, True, 'none'])

    def test_paulis(self):
        self.assertEqual(
            [pauli_product((1, "X"), (1, "Y")), pauli_product((1, "XZ"), (-1, "ZX")), do_commute((1, "XZ"), (1, "ZX")),
             do_commute((1, "XI"), (1, "ZX"))],
            [(1, 'Z'), (2, 'YY'), True, False])
        ghz = ((1, "XXX"), (1, "ZZI"), (1, "IZZ"))
        self.assertEqual(
            [group_of(ghz)[:3], mean_of(ghz, (1, "YYX")), mean_of(ghz, (1, "XII")), len(group_of(ghz))],
            [((-1, 'XYY'), (-1, 'YXY'), (-1, 'YYX')), -1, 0, 8])
        sides = ((1, "XII"), (1, "IXI"), (1, "IIX"), (1, "YII"), (1, "IYI"), (1, "IIY"))
        tests = ((0, 1, 2), (0, 4, 5), (1, 3, 5), (2, 3, 4))
        self.assertEqual(
            pauli_family(ghz, sides, tests)[0],
            ((1, 4), (0, 1), (0, 1), (1, 4), (0, 1), (1, 4), (1, 4), (0, 1)))
        rows = ((0, (0, 1, 2), 0), (1, (0, 4, 5), 1), (2, (1, 3, 5), 1), (3, (2, 3, 4), 1))
        self.assertEqual(family_or_odd(ghz, sides, tests), ('odd', rows))
        self.assertLessEqual(set(rows), set(pauli_rows(ghz, sides, tests)))
        square = (
            (1, "XI"), (1, "IX"), (1, "XX"), (1, "IZ"), (1, "ZI"), (1, "ZZ"), (1, "XZ"), (1, "ZX"), (1, "YY"))
        self.assertEqual(
            valued_or_odd(square, ((0, 1, 2), (0, 3, 6), (1, 4, 7), (2, 5, 8), (3, 4, 5), (6, 7, 8))),
            ('odd', ((0, (0, 1, 2), 0), (1, (0, 3, 6), 0), (2, (1, 4, 7), 0), (3, (2, 5, 8), 1), (4, (3, 4, 5), 0),
                     (5, (6, 7, 8), 0))))

    def lab(self):
        """The lab of the document, read."""
        rows = [
            "observables a 2, b 2, x 2, y 2", "contexts x a; a y; b x; y b", "family box", "a x: 00 1/2, 11 rest",
            "b y: 01 1/2, 10 1/2", "y a: 11 2/4, 00 rest", "b x: 00 1/2, 11 1/2"]
        rows = rows + [
            "joint coin: 0000 1/2, 1111 rest", "noisy = mix 1/2 box even",
            "tame = mix 1/3 of coin turn x 10 point 0100"]
        return read_lab("\n".join(rows))

    def test_labs(self):
        lab = self.lab()
        self.assertEqual(
            [lab[0], lab[1] == bell, lab[2][0] == ("box", "family", box), lab[2][2], lab[2][3]],
            [('a', 'b', 'x', 'y'), True, True, ('noisy', 'term', ('mix', (1, 2), ('name', 'box'), ('even',))),
             ('tame', 'term', ('mix', (1, 3), ('of', 'coin'), ('turn', 2, (1, 0), ('point', (0, 1, 0, 0)))))])
        self.assertEqual(
            [is_lab(lab), family_in(lab, "noisy")[3], open_share(lab, "noisy"), is_settled(lab, "noisy"),
             is_settled(lab, "tame"), joint_in(lab, "tame")[6], joint_in(lab, "tame")[15], family_in(lab, "tame")[0]],
            [True, ((1, 8), (3, 8), (3, 8), (1, 8)), (1, 2), False, True, (2, 3), (1, 6),
             ((1, 6), (2, 3), (0, 1), (1, 6))])
        self.assertEqual(
            [lab_text(lab).split("\n")[1:5], lab_text(lab).split("\n")[6:9], read_lab(lab_text(lab)) == lab],
            [['contexts a x; a y; b x; b y', 'family box', 'a x: 00 1/2, 11 1/2', 'a y: 00 1/2, 11 1/2'],
             ['b y: 01 1/2, 10 1/2', 'joint coin: 0000 1/2, 1111 1/2', 'noisy = mix 1/2 box even'], True])
        self.refuses((NotSettled, "given", "noisy"), joint_in, lab, "noisy")

    def test_texts(self):
        head = "observables a 2, b 2\ncontexts a b\nfamily f\n"
        for line, kind in (("b a: 01 1/2, 01 1/2", TwiceNamed), ("b a: 01 1/2, 02 1/2", NoSection)):
            with self.assertRaises(kind) as caught:
                read_lab(head + line)
            self.assertEqual(vars(caught.exception), {"line": 3, "place": 13})

    def test_logs(self):
        log = play(bell, box, ((0, 0), (0, 1), (3, 5)))
        self.assertEqual(
            [pick((half, nil, nil, half), 7), log, counts(bell, log), tables(bell, log)[2:], gaps(bell, log)],
            [3, ((0, (0, 0)), (0, (1, 1)), (3, (1, 0))), ((1, 0, 0, 1), (0, 0, 0, 0), (0, 0, 0, 0), (0, 0, 1, 0)),
             (None, ((0, 1), (0, 1), (1, 1), (0, 1))), ((0, 3, (0, 1)),)])
        self.assertEqual(
            [log_chance(bell, box, log), log_chance(bell, (flat,) * 4, log),
             play_joint(bell, self.lab()[2][1][2], ((0, 3), (1, 0)))],
            [(1, 8), (1, 64), (((0, (1, 1)), (1, (0, 0))), ((1, 1, 1, 1), (0, 0, 0, 0)))])

    def test_memory(self):
        log = play(bell, box, ((0, 0), (0, 1), (3, 5)))
        game = ((quarter,) * 4, ((1, 0, 0, 1),) * 3 + ((0, 1, 1, 0),))
        self.assertEqual(
            [tail(3, 2, (3, 4)), wins_of(bell, game, log), level(bell, game, log), rounds_needed(bell, game, (1, 100))],
            [(27, 32), 3, (27, 64), 17])
        good, poor = constant_plan(bell, 1, (0, 0, 0, 0)), constant_plan(bell, 1, (0, 0, 1, 0))
        plan = ((0, 0, 0, 0), (good, good, good, poor))
        self.assertEqual(
            [is_plan(bell, 2, plan), plan_chance(bell, game, plan, 1), plan_chance(bell, game, plan, 2),
             tail(2, 1, (3, 4)), plan_chance(bell, game, constant_plan(bell, 2, (0, 0, 0, 0)), 1)],
            [True, (13, 16), (9, 16), (15, 16), (15, 16)])

    def test_desks(self):
        desk = Desk(self.lab())
        self.assertEqual(
            [desk.roll("coin", 1, 3), desk.note(3, (0, 1)), desk.log,
             desk.put("half", "term", ("mix", half, ("name", "noisy"), ("even",))), family_in(desk.lab, "half")[0],
             len(desk), desk.undo(), desk.undo(), desk.log],
            [None, None, ((1, (1, 1)), (3, (0, 1))), None, ((5, 16), (3, 16), (3, 16), (5, 16)), 3, None, None,
             ((1, (1, 1)),)])
        self.refuses((InUse, "given", "noisy"), desk.drop, "box")

    def test_consoles(self):
        table = Console(Desk(self.lab()))
        self.assertEqual(
            [table.say("roll box x a 1"), table.say("note y b: 10"), table.say("log").split("\n"),
             table.say("chance noisy"), table.say("fraction noisy"), table.say("undo"),
             table.say("table tame").split("\n")[0], table.say("fraction box")],
            ['a x: 11', 'done', ['a x: 11 1', 'b y: 01 1'], '9/64', '0', 'done', 'a x: 00 1/6, 01 2/3, 11 1/6', '1'])

    def test_family_of(self):
        self.assertEqual(family_of(coin, (third, (2, 3))), ((third, (2, 3)),))


if __name__ == "__main__":
    unittest.main()
