"""[1] to [5]: what all parts promise together, and what one part tells passed on to the others that take it."""

import copy
import unittest
from fractions import Fraction

from belltables import errors
from belltables.acyclic import family_against, is_acyclic, joint_along, obstruction, reduction
from belltables.certificates import certify_family, certify_fraction, certify_scenario
from belltables.certifygames import certify_equivalent, certify_facet, certify_reaches, certify_wins
from belltables.certifylabs import certify_log, certify_memory
from belltables.certifysupports import (
    certify_family_with, certify_marking, certify_parities, certify_support, certify_valued)
from belltables.checker import accepts
from belltables.consoles import Console
from belltables.desks import Desk
from belltables.fractions import contextual_fraction, covering, is_covering, noncontextual_fraction, rest_of
from belltables.games import classical_value, game_value, is_bound_of, most_value, no_signalling_value
from belltables.inequalities import greatest, is_facet, is_valid, normal
from belltables.joint import is_noncontextual, joint_or_inequality, local_bound, value
from belltables.labs import family_in, is_lab, is_settled, joint_in, open_share
from belltables.language import lab_text, read_lab
from belltables.logs import counts, gaps, log_chance, pick, play, play_joint, tables
from belltables.markings import bases_of, marking, odd_bases, orthogonal_pairs
from belltables.memory import constant_plan, is_plan, level, plan_chance, rounds_needed, tail, wins_of
from belltables.parity import is_argument, parity_rows, solved_or_odd
from belltables.paulis import (
    family_or_odd, group_of, is_pauli, mean_of, pauli_family, pauli_rows, pauli_scenario, valued_or_odd)
from belltables.possible import (
    contextuality_of, extending, extension, family_with, hardy, is_consistent, is_support, non_extending, support_of)
from belltables.relabellings import between, canonical, led_family, led_inequality, relabellings
from belltables.scenarios import (
    family_of, is_distribution, is_family, is_no_signalling, is_scenario, is_weights, marginal, mixture, sections_of)
from belltables.wirings import beside, beside_families, is_wiring, wired
from tests.harness import Case
from tests.own import (
    BELL, BOX, COIN, FLAT, GAME, HALF, LIKE, NIL, ONE, PATH, SMALL, TRIANGLE, WON, Maker, deep, frac, mix, own_agreed,
    own_value, pair, worlds)
from tests.test_acyclic import RINGS, TREES, small_scenarios
from tests.test_labs import LAB
from tests.test_markings import AXES, CABELLO
from tests.test_paulis import GHZ, LINES, SIDES, SQUARE, TESTS, drawn_paulis, drawn_state
from tests.test_possible import PARADOX
from tests.test_wirings import CHASE, SOURCES, drawn_wirings


def drawn_boxes(maker, scenario, many):
    """No-signalling families: the best ones of drawn games, and mixtures of them."""
    found = [no_signalling_value(scenario, maker.game(scenario))[1] for _ in range(many)]
    found += [mix(one, two, Fraction(1, 3)) for one, two in zip(found, found[1:])]
    return found + [maker.joint_family(scenario, 9, 50)]


class Promises(Case):
    def test_joint_or_not(self):
        """All parts tell the same of a family."""
        maker = Maker(251)
        words = {}
        for scenario in SMALL:
            for family in drawn_boxes(maker, scenario, 3) + [maker.family(scenario, 9, 50)]:
                is_joint = is_noncontextual(scenario, family)
                words[is_joint] = words.get(is_joint, 0) + 1
                word, told = joint_or_inequality(scenario, family)
                self.assertEqual(word, "joint" if is_joint else "inequality")
                self.assertEqual(contextual_fraction(scenario, family) == NIL, is_joint)
                self.assertEqual(noncontextual_fraction(scenario, family)[0] == ONE, is_joint)
                if is_joint:
                    self.assertIs(is_distribution(scenario, told), True)
                    self.assertEqual(family_of(scenario, told), family)
                    self.assertIs(is_no_signalling(scenario, family), True)
                    self.assertNotEqual(contextuality_of(scenario, support_of(scenario, family)),
                                        "logically contextual")
                else:
                    self.assertIs(is_weights(scenario, told), True)
                    self.assertGreater(frac(value(scenario, told, family)), frac(local_bound(scenario, told)))
                    self.assertIs(is_valid(scenario, (told, local_bound(scenario, told))), True)
                self.assertEqual(contextual_fraction(scenario, family) == ONE,
                                 contextuality_of(scenario, support_of(scenario, family)) == "strongly contextual")
                claim, paper = certify_family(scenario, family)
                self.assertEqual(claim[0], "noncontextual" if is_joint else "contextual")
                self.assertIs(accepts(claim, paper), True)
        self.assertGreater(min(words.values()), 5)

    def test_where(self):
        """Every no-signalling family is noncontextual exactly if the scenario is acyclic."""
        maker = Maker(252)
        for at, scenario in enumerate(list(small_scenarios()) + TREES + RINGS):
            if at % 3 and len(scenario[0]) == 4:
                continue
            if is_acyclic(scenario):
                self.assertIsNone(obstruction(scenario))
                for family in drawn_boxes(maker, scenario, 1):
                    joint = joint_along(scenario, family, reduction(scenario))
                    self.assertEqual(family_of(scenario, joint), family)
                    self.assertIs(is_noncontextual(scenario, family), True)
                    self.assertIs(accepts(("joined", scenario, family, reduction(scenario), joint), ()), True)
            else:
                self.assertIsNone(reduction(scenario))
                family = family_against(scenario, obstruction(scenario))
                self.assertIs(is_no_signalling(scenario, family), True)
                self.assertEqual(contextual_fraction(scenario, family), ONE)
                support = support_of(scenario, family)
                self.assertIs(is_consistent(scenario, support), True)
                self.assertEqual(contextuality_of(scenario, support), "strongly contextual")
            self.assertEqual(certify_scenario(scenario)[0][0], "acyclic" if is_acyclic(scenario) else "cyclic")

    def test_how_much(self):
        """No free operation raises the contextual fraction."""
        maker = Maker(253)
        for scenario in SOURCES:
            boxes = drawn_boxes(maker, scenario, 2)
            share = maker.row(2)[0]
            fractions = [frac(contextual_fraction(scenario, family)) for family in boxes]
            mixed = mixture(scenario, boxes[0], boxes[-1], share)
            self.assertLessEqual(frac(contextual_fraction(scenario, mixed)),
                                 frac(share) * fractions[0] + (1 - frac(share)) * fractions[-1])
            for other in (COIN, PATH, TRIANGLE, BELL):
                for wiring in drawn_wirings(maker, scenario, other, 4):
                    if is_wiring(scenario, other, wiring):
                        told = wired(scenario, other, wiring, boxes[0])
                        self.assertLessEqual(frac(contextual_fraction(other, told)), fractions[0])
            if len(worlds(scenario)) <= 16:
                told = led_family(scenario, maker.random.choice(relabellings(scenario)), boxes[0])
                self.assertEqual(frac(contextual_fraction(scenario, told)), fractions[0])
            both = beside_families(scenario, boxes[0], COIN, ((HALF, HALF),)) if len(worlds(scenario)) <= 16 else None
            if both is not None:
                self.assertEqual(frac(contextual_fraction(beside(scenario, COIN), both)), fractions[0])

    def test_games(self):
        """Classical, no-signalling and played values, one beside the other."""
        maker = Maker(254)
        for scenario in SMALL:
            game = maker.game(scenario)
            best, world = classical_value(scenario, game)
            most, family, bound = no_signalling_value(scenario, game)
            self.assertIs(is_bound_of(scenario, game, bound), True)
            self.assertEqual(game_value(scenario, game, family), most)
            self.assertEqual(most_value(scenario, game, family), pair(
                frac(contextual_fraction(scenario, family)) * frac(most)
                + (1 - frac(contextual_fraction(scenario, family))) * frac(best)))
            self.assertEqual(plan_chance(scenario, game, constant_plan(scenario, 1, world), 1), best)
            if frac(most) > frac(best):
                self.assertGreater(frac(contextual_fraction(scenario, family)), 0)
            for number in (best, most):
                for function in (certify_wins, certify_reaches):
                    claim, paper = function(scenario, game, number)
                    self.assertIs(accepts(claim, paper), True)


class PassedOn(Case):
    def test_inequalities(self):
        """What a family breaks is a valid inequality; led, it is equivalent; made into facets' words."""
        maker = Maker(255)
        for scenario in (BELL, TRIANGLE):
            for family in drawn_boxes(maker, scenario, 4):
                word, weights = joint_or_inequality(scenario, family)
                if word == "joint":
                    continue
                inequality = (weights, local_bound(scenario, weights))
                self.assertEqual(greatest(scenario, weights)[0], inequality[1])
                led = led_inequality(scenario, maker.random.choice(relabellings(scenario)), inequality)
                self.assertEqual(canonical(scenario, led), canonical(scenario, inequality))
                told = between(scenario, inequality, led)
                self.assertEqual(normal(scenario, led_inequality(scenario, told, inequality)), normal(scenario, led))
                self.assertEqual(certify_equivalent(scenario, inequality, led), (
                    ("equivalent", scenario, inequality, led), told))
                claim, paper = certify_facet(scenario, inequality)
                self.assertEqual(claim[0] == "facet", is_facet(scenario, inequality))
                self.assertIs(accepts(claim, paper), True)

    def test_fractions(self):
        """What is left over is wholly contextual; its papers are papers of the family's, too."""
        maker = Maker(256)
        for scenario in (BELL, TRIANGLE, SMALL[7], SMALL[10]):
            for family in drawn_boxes(maker, scenario, 2):
                claim, (row, cover) = certify_fraction(scenario, family)
                self.assertIs(is_covering(scenario, cover), True)
                self.assertEqual(value(scenario, covering(scenario, family), family), value(scenario, cover, family))
                rest = rest_of(scenario, family)
                if rest is None:
                    self.assertEqual(claim[3], NIL)
                    continue
                self.assertIs(is_family(scenario, rest), True)
                self.assertEqual(contextual_fraction(scenario, rest), ONE)
                self.assertEqual(value(scenario, cover, rest), NIL)
                self.assertEqual(accepts(("fraction", scenario, rest, ONE), ((NIL,) * len(row), cover)), True)

    def test_paulis(self):
        """Tables of states through all parts that take families and supports."""
        maker = Maker(257)
        words = {}
        cases = [(GHZ, SIDES, TESTS)]
        for _ in range(10):
            places = maker.random.choice((2, 3))
            cases.append((drawn_state(maker, places), *drawn_paulis(maker, places, maker.random.randint(2, 5), 5)))
        for state, paulis, contexts in cases:
            scenario, family = pauli_scenario(paulis, contexts), pauli_family(state, paulis, contexts)
            self.assertIs(is_scenario(scenario) and is_no_signalling(scenario, family), True)
            support = support_of(scenario, family)
            self.assertIs(is_support(scenario, support) and is_consistent(scenario, support), True)
            self.assertEqual(parity_rows(scenario, support), pauli_rows(state, paulis, contexts))
            word, told = family_or_odd(state, paulis, contexts)
            words[word] = words.get(word, 0) + 1
            self.assertEqual(solved_or_odd(scenario, support)[0], word)
            self.assertEqual(contextual_fraction(scenario, family), NIL if word == "solved" else ONE)
            self.assertEqual(certify_parities(scenario, support)[0][0],
                             "parities solved" if word == "solved" else "all versus nothing")
            if word == "odd":
                self.assertIs(accepts(("all versus nothing", scenario, support), told), True)
            else:
                self.assertIs(accepts(("parities solved", scenario, support), told), True)
                self.assertIs(accepts(("possible", scenario, support), told), True)
            self.assertIs(accepts(("stabilizer table", state, paulis, contexts, family), ()), True)
            if sum(map(len, support)) <= 32:
                self.assertEqual(family_with(scenario, support)[0], "family")
            for pauli in group_of(state):
                self.assertEqual(mean_of(state, pauli), 1)
        self.assertEqual(len(words), 2)

    def test_vectors(self):
        for vectors in (AXES, CABELLO):
            word, told = marking(vectors)
            claim = "marking" if word == "marked" else "Kochen-Specker"
            self.assertIs(accepts((claim, vectors), told), True)
            self.assertEqual(certify_marking(vectors)[0], (claim, vectors))
        self.assertIs(accepts(("Kochen-Specker", CABELLO), odd_bases(CABELLO)), True)

    def test_from_text_to_text(self):
        """A lab is read, changed on a desk, asked at a console, run, and printed."""
        maker = Maker(258)
        lab = read_lab(lab_text(LAB))
        self.assertEqual(lab, LAB)
        desk = Desk(lab)
        console = Console(desk)
        console.say("let mixed = mix 2/3 box tame")
        console.say("joint drawn: 0110 1/3, 1001 rest")
        console.say("let drawn2 = turn y 10 of drawn")
        self.assertIs(is_lab(desk.lab), True)
        self.assertEqual(read_lab(console.say("show")), desk.lab)
        self.assertIs(accepts(("reads", console.say("show"), desk.lab), ()), True)
        self.assertEqual(console.say("fraction mixed"), str(frac(contextual_fraction(BELL, family_in(desk.lab,
                                                                                                     "mixed")))))
        self.assertLessEqual(frac(contextual_fraction(BELL, family_in(desk.lab, "mixed"))),
                             frac(open_share(desk.lab, "mixed")))
        self.assertIs(is_settled(desk.lab, "drawn2"), True)
        joint = joint_in(desk.lab, "drawn2")
        self.assertIs(accepts(("settled", desk.lab, "drawn2", joint), ()), True)
        self.assertIs(accepts(("noncontextual", BELL, family_in(desk.lab, "drawn2")), joint), True)
        rounds = tuple((maker.random.randrange(4), maker.random.randrange(10 ** 60)) for _ in range(80))
        log = play(BELL, family_in(desk.lab, "mixed"), rounds)
        for context, die in rounds:
            desk.roll("mixed", context, die)
        self.assertEqual(desk.log, log)
        self.assertEqual(console.say("wins win"), f"{wins_of(BELL, GAME, log)} of 80")
        self.assertEqual(console.say("level win"), str(frac(level(BELL, GAME, log))))
        for name in ("mixed", "noisy", "drawn2"):
            told = family_in(desk.lab, name)
            claim, paper = certify_log(BELL, log, told)
            self.assertIs(accepts(claim, paper), True)
            if claim[0] == "not most likely":
                self.assertGreater(frac(log_chance(BELL, paper, log)), frac(log_chance(BELL, told, log)))
        best = classical_value(BELL, GAME)[0]
        wins = wins_of(BELL, GAME, log)
        claim, paper = certify_memory(BELL, GAME, 80, wins, level(BELL, GAME, log))
        self.assertEqual((claim[0], paper), ("never more", ()))
        self.assertEqual(tail(80, wins, best), level(BELL, GAME, log))
        while len(desk):
            console.say("undo")
        self.assertEqual((desk.lab, desk.log), (lab, ()))

    def test_logs_of_joint_ones(self):
        """Of a joint distribution the tables of any N dice are its family: they agree, and make the log likeliest."""
        row = Maker(259).row(16, 3)
        many = max(bottom for _, bottom in row)
        while any(many % bottom for _, bottom in row):
            many += 1
        if many > 100:
            row, many = ((1, 16),) * 16, 16
        rounds = tuple((context, 7 + die) for context in range(4) for die in range(many))
        log, hidden = play_joint(BELL, row, rounds)
        self.assertEqual(tables(BELL, log), family_of(BELL, row))
        self.assertEqual({gap for _, _, gap in gaps(BELL, log)}, {NIL})
        self.assertEqual(certify_log(BELL, log, family_of(BELL, row))[0][0], "most likely")
        self.assertEqual(len(hidden), len(log))
        self.assertEqual(sum(sum(line) for line in counts(BELL, log)), len(rounds))

    def test_great_numbers(self):
        """Whatever the size of the numbers that come back."""
        share = (1, 10 ** 399 + 3)
        family = mix(BOX, FLAT, Fraction(1, 2) + frac(share))
        self.assertEqual(contextual_fraction(BELL, family), pair(2 * frac(share)))
        rest = rest_of(BELL, family)
        for told in (family, rest, mixture(BELL, family, rest, share)):
            claim, paper = certify_fraction(BELL, told)
            self.assertIs(accepts(claim, paper), True)
            claim, paper = certify_family(BELL, told)
            self.assertIs(accepts(claim, paper), True)
            self.assertIs(own_agreed(BELL, told), True)
        twice = mixture(BELL, mixture(BELL, family, FLAT, share), BOX, share)
        self.assertEqual(frac(value(BELL, WON, twice)), own_value(WON, twice))
        log = play(BELL, twice, ((0, 5), (1, 10 ** 60 - 1)))
        self.assertEqual(certify_log(BELL, log, twice)[0][0], "not most likely")
        number = tail(100, 57, share)
        self.assertIs(accepts(("never more", BELL, GAME, 100, 57, number), ()), False)
        claim, paper = certify_memory(BELL, GAME, 100, 57, number)
        self.assertIs(accepts(claim, paper), True)
        text = lab_text((("a",), COIN, ()))
        lab = read_lab(text)
        desk = Desk(lab)
        desk.put("f", "family", ((share, pair(1 - frac(share))),))
        self.refuses((errors.InvalidNumber, "given", share), Console(desk).say, "show")
        desk.roll("f", 0, 10 ** 60 - 1)
        self.assertEqual(Console(desk).say("log"), "a: 1 1")

    def test_long_plans_and_trees(self):
        """What is nested deep, made by the package, is taken by it."""
        plan = constant_plan(COIN, 100, (0,))
        game = ((ONE,), ((1, 0),))
        self.assertIs(is_plan(COIN, 100, plan), True)
        self.assertEqual(plan_chance(COIN, game, plan, 100), ONE)
        self.assertIs(accepts(("plan", COIN, game, plan, 100, ONE), ()), True)
        self.assertIs(accepts(plan, plan), False)
        claim, tree = certify_marking(CABELLO)
        self.assertIs(accepts(claim, tree), True)
        self.assertIs(accepts(tree, claim), False)


def all_calls():
    """A call of nearly every function, with right arguments."""
    facet = (WON, (3, 1))
    log = ((0, (0, 0)), (3, (1, 0)), (0, (1, 1)))
    plan = constant_plan(BELL, 2, (0, 1, 0, 1))
    claim, paper = certify_family(BELL, BOX)
    return [
        (sections_of, BELL, (0, 3)), (is_family, BELL, BOX), (marginal, BELL, BOX, 1, (0,)), (family_of, BELL,
                                                                                              ((1, 16),) * 16),
        (mixture, BELL, BOX, FLAT, HALF), (joint_or_inequality, BELL, BOX), (joint_or_inequality, BELL, FLAT),
        (noncontextual_fraction, BELL, BOX), (covering, BELL, FLAT), (rest_of, BELL, BOX), (reduction, PATH),
        (obstruction, BELL), (family_against, BELL, ("cycle", (0, 2, 1, 3))), (joint_along, PATH, (LIKE, LIKE), ((0,
                                                                                                                  1),)),
        (game_value, BELL, GAME, BOX), (classical_value, BELL, GAME), (no_signalling_value, BELL, GAME),
        (most_value, BELL, GAME, BOX), (greatest, BELL, WON), (normal, BELL, facet), (is_facet, BELL, facet),
        (relabellings, TRIANGLE), (canonical, BELL, facet), (between, BELL, facet, facet), (wired, BELL, COIN,
                                                                                            (CHASE,), BOX),
        (beside, COIN, PATH), (support_of, BELL, BOX), (extending, BELL, PARADOX), (extension, BELL, PARADOX, 0, (0,
                                                                                                                  1)),
        (non_extending, BELL, PARADOX), (hardy, BELL, PARADOX), (family_with, BELL, PARADOX), (parity_rows, BELL,
                                                                                               PARADOX),
        (solved_or_odd, BELL, PARADOX), (is_argument, BELL, ()), (orthogonal_pairs, CABELLO), (bases_of, CABELLO),
        (marking, CABELLO), (odd_bases, CABELLO), (group_of, GHZ), (pauli_family, GHZ, SIDES, TESTS),
        (valued_or_odd, SQUARE, LINES), (family_in, LAB, "noisy"), (joint_in, LAB, "tame"), (lab_text, LAB),
        (read_lab, lab_text(LAB)), (pick, (HALF, HALF), 5), (play, BELL, BOX, ((0, 1), (1, 2))),
        (play_joint, BELL, ((1, 16),) * 16, ((0, 1), (1, 2))), (counts, BELL, log), (tables, BELL, log), (gaps, BELL,
                                                                                                          log),
        (log_chance, BELL, BOX, log), (tail, 5, 3, HALF), (is_plan, BELL, 2, plan), (plan_chance, BELL, GAME, plan, 1),
        (constant_plan, BELL, 3, (0, 0, 0, 0)), (wins_of, BELL, GAME, log), (level, BELL, GAME, log),
        (rounds_needed, BELL, GAME, (1, 50)), (accepts, claim, paper), (certify_family, BELL, BOX),
        (certify_fraction, BELL, BOX), (certify_scenario, BELL), (certify_wins, BELL, GAME, HALF),
        (certify_reaches, BELL, GAME, (3, 2)), (certify_facet, BELL, facet), (certify_equivalent, BELL, facet, facet),
        (certify_support, BELL, PARADOX), (certify_family_with, BELL, PARADOX), (certify_parities, BELL, PARADOX),
        (certify_marking, CABELLO), (certify_valued, SQUARE, LINES), (certify_log, BELL, log, BOX),
        (certify_memory, BELL, GAME, 5, 4, HALF), (is_pauli, (1, "X"))]


class Calls(Case):
    def test_equal_calls(self):
        """In whatever order, with arguments that are equal, results are equal, and arguments as they were."""
        calls = all_calls()
        kept = copy.deepcopy(calls)
        answers = [repr(function(*given)) for function, *given in calls]
        self.assertEqual(repr(calls), repr(kept))
        again = [repr(function(*copy.deepcopy(given))) for function, *given in reversed(calls)]
        self.assertEqual(again[::-1], answers)

    def test_right_arguments_twice_on_a_desk(self):
        """Two desks with the same steps are alike."""
        talks = []
        for _ in range(2):
            desk = Desk(copy.deepcopy(LAB))
            console = Console(desk)
            talks.append([console.say(line) for line in (
                "roll box a x 17", "roll noisy b y 4", "note x b: 10", "let q = mix 1/2 box even", "settle noisy",
                "log",
                "fraction q", "table q", "drop q", "undo", "show", "level win", "wins win",
                "acyclic")] + [repr(desk.lab)])
        self.assertEqual(talks[0], talks[1])

    def test_true_and_false(self):
        for function, *given in all_calls():
            if function.__name__.startswith("is_") or function is accepts:
                self.assertIn(repr(function(*given)), ("True", "False"))

    def test_deep_ones(self):
        """Values nested as deep as may be passed."""
        for value_ in (deep(lambda x: (x,), ()), deep(lambda x: ((), (x,) * 1), ()), deep(lambda x: ((0,), (x,)), ())):
            self.assertIs(accepts(value_, value_), False)
            self.assertIs(accepts(("plan", COIN, ((ONE,), ((1, 0),)), value_, 0, HALF), ()), False)
            for number in range(25):
                is_plan(COIN, number, value_)


if __name__ == "__main__":
    unittest.main()
