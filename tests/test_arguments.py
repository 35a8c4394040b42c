"""[3], [4]: for every function each error, their order, arguments by position and by name, and right arguments."""

import unittest

from belltables import acyclic, errors, fractions, games, inequalities, joint, relabellings, scenarios
from tests.harness import Case, Spec
from tests.own import BELL, BOX, FLAT, GAME, LIKE, NIL, ONE, WON, Maker, any_values

SIGNALLING = ((ONE, NIL, NIL, NIL),) * 3 + ((NIL, NIL, NIL, ONE),)
DISTRIBUTION = Maker(71).distribution(BELL)
TREE = ((2, 2, 2, 2), ((0, 1), (1, 2), (2, 3)))
STEPS = ((0, 1), (1, 2))
UNAGREED = ((ONE, NIL, NIL, NIL), (NIL, NIL, NIL, ONE), (ONE, NIL, NIL, NIL))
MANY = ((4, 4, 4), ((0, 1, 2),))
TURN = ((2, 3, 0, 1), ((1, 0),) * 4)
INEQUALITY = (WON, (3, 1))

WRONG_ROWS = [
    (None, None), ((), None), (BOX[:3], None), (BOX + (LIKE,), None), (list(BOX), None), (0, None), ("abcd", None),
    (True, None), ((LIKE[:3],) + BOX[1:], 0), (BOX[:1] + (list(LIKE),) + BOX[2:], 1), (BOX[:2] + (None,) + BOX[3:], 2),
    (BOX[:3] + ((ONE, NIL, NIL, (2, 2)),), 3), (BOX[:1] + ((NIL,), ()) + BOX[3:], 1), ((None,) * 4, 0),
    (BOX[:2] + ((True, NIL, NIL, ONE), LIKE), 2),
]
WRONG_CHANCES = WRONG_ROWS + [
    (BOX[:1] + ((ONE, NIL, NIL, ONE),) + BOX[2:], 1), (BOX[:2] + ((NIL,) * 4,) * 2, 2),
    (BOX[:3] + ((ONE, ONE, (-1, 1), NIL),), 3), ((((3, 2), (-1, 2), NIL, NIL),) + BOX[1:], 0),
]


def given(kind, values):
    return [(value, (kind, "given", value)) for value in values]


def indexed(kind, rows):
    return [(value, (kind, "index", index)) for value, index in rows]


NO_SCENARIO = given(errors.InvalidScenario, [
    ((2, 2), ((0,),)), None, (), (BELL,), list(BELL), (BELL[0], BELL[1][::-1]), ((2, 5), ((0, 1),)),
    ((True, 2), ((0, 1),)), ((2, 2), ((0,), (0, 1))), "bell", 0, {}, ((4, 4, 4, 2), ((0, 1, 2, 3),))])
NO_FAMILY = indexed(errors.InvalidFamily, WRONG_CHANCES)
NO_WEIGHTS = indexed(errors.InvalidWeights, WRONG_ROWS)
NO_DISTRIBUTION = given(errors.InvalidDistribution, [
    DISTRIBUTION[1:], list(DISTRIBUTION), DISTRIBUTION + (NIL,), (ONE,) * 16, (), None, BOX, (DISTRIBUTION,),
    ((2, 2),) + (NIL,) * 15, ((-1, 1), (2, 1)) + (NIL,) * 14, (True,) + (NIL,) * 15])
NO_SHARE = given(errors.InvalidFraction, [
    (-1, 2), (3, 2), (2, 4), (1, 0), (1, -2), 1, 0, True, None, [1, 2], (1, 2, 3), (True, 2), (1, True), (0, 2), "1/2"])
NO_GAME = given(errors.InvalidGame, [
    (GAME[0], GAME[1][:3]), (GAME[0][:3], GAME[1]), list(GAME), GAME + (1,), None, (), BOX, ((ONE,) * 4, GAME[1]),
    (GAME[0], (((True, 0, 0, 1),) + GAME[1][1:]))])
NO_INEQUALITY = given(errors.InvalidInequality, [
    (WON, 3), list(INEQUALITY), (WON[:3], ONE), WON, (ONE, WON), None, (), (WON, (6, 2)), (WON, ONE, ONE)])
NO_RELABELLING = given(errors.InvalidRelabelling, [
    (TURN[0], TURN[1][:3]), list(TURN), ((1, 2, 3, 0), TURN[1]), None, (), (TURN[0],), TURN[0]])


class Scenarios(Case):
    def test_is_scenario(self):
        self.holds(Spec(scenarios.is_scenario, [("value", BELL)], {}))
        self.holds(Spec(scenarios.is_scenario, [("value", list(BELL))], {}))

    def test_sections_of(self):
        lots = given(errors.InvalidLot, [(3, 1), [1, 3], (1, 1), (4,), (-1,), (True,), 1, None, (1, 2, 3, 4), "", {},
                                         ((1,),), (0, None)])
        self.holds(Spec(scenarios.sections_of, [("scenario", BELL), ("lot", (1, 3))],
                        {"scenario": NO_SCENARIO, "lot": lots}))

    def test_whatever_it_is(self):
        for function, right in ((scenarios.is_family, BOX), (scenarios.is_distribution, DISTRIBUTION),
                                (scenarios.is_weights, WON), (fractions.is_covering, WON),
                                (acyclic.is_reduction, STEPS), (acyclic.is_obstruction, ("cycle", (0, 2, 1, 3))),
                                (games.is_game, GAME), (inequalities.is_inequality, INEQUALITY)):
            for value in [right, list(right), None, {}, [[]]]:
                self.holds(Spec(function, [("scenario", BELL), ("value", value)], {"scenario": NO_SCENARIO}))

    def test_marginal(self):
        contexts = given(errors.InvalidNumber, [4, -1, True, False, None, "0", (0,), 10 ** 30, []])
        lots = given(errors.InvalidLot, [(0, 3), (3, 1), [1], (0,), (1, 2, 3), (1, 1), (4,), None, 3, (True,), "1"])
        right = [("scenario", BELL), ("family", SIGNALLING), ("context", 3), ("lot", (1,))]
        self.holds(Spec(scenarios.marginal, right,
                        {"scenario": NO_SCENARIO, "family": NO_FAMILY, "context": contexts, "lot": lots}))

    def test_families(self):
        for function in (scenarios.is_no_signalling, joint.joint_or_inequality, joint.is_noncontextual,
                         fractions.noncontextual_fraction, fractions.contextual_fraction, fractions.covering):
            for family in (BOX, FLAT, SIGNALLING):
                self.holds(Spec(function, [("scenario", BELL), ("family", family)],
                                {"scenario": NO_SCENARIO, "family": NO_FAMILY}))

    def test_family_of(self):
        self.holds(Spec(scenarios.family_of, [("scenario", BELL), ("distribution", DISTRIBUTION)],
                        {"scenario": NO_SCENARIO, "distribution": NO_DISTRIBUTION}))

    def test_mixture(self):
        for share in ((0, 1), (1, 3), (1, 1)):
            right = [("scenario", BELL), ("one", BOX), ("two", SIGNALLING), ("share", share)]
            self.holds(Spec(scenarios.mixture, right,
                            {"scenario": NO_SCENARIO, "one": NO_FAMILY, "two": NO_FAMILY, "share": NO_SHARE}))


class JointOnes(Case):
    def test_value(self):
        right = [("scenario", BELL), ("weights", WON), ("family", SIGNALLING)]
        self.holds(Spec(joint.value, right,
                        {"scenario": NO_SCENARIO, "weights": NO_WEIGHTS, "family": NO_FAMILY}))

    def test_weights_alone(self):
        for function in (joint.local_bound, inequalities.greatest):
            self.holds(Spec(function, [("scenario", BELL), ("weights", WON)],
                            {"scenario": NO_SCENARIO, "weights": NO_WEIGHTS}))

    def test_rest_of(self):
        for family in (BOX, FLAT):
            self.holds(Spec(fractions.rest_of, [("scenario", BELL), ("family", family)],
                            {"scenario": NO_SCENARIO, "family": NO_FAMILY},
                            [({"family": SIGNALLING}, errors.NotAgreed, None, None)]))


class Acyclic(Case):
    def test_scenario_alone(self):
        for function in (acyclic.is_acyclic, acyclic.reduction, acyclic.obstruction, inequalities.dimension,
                         relabellings.relabellings):
            self.holds(Spec(function, [("scenario", BELL)], {"scenario": NO_SCENARIO}))
        self.holds(Spec(relabellings.relabellings, [("scenario", TREE)], {},
                        [({"scenario": MANY}, errors.TooMany, "given", 82944)]))

    def test_joint_along(self):
        wrong = given(errors.InvalidReduction, [(), STEPS[:1], list(STEPS), ((0, 2), (1, 2)), STEPS + ((2, 0),), None,
                                                ((0, 1), (0, 2)), ((0, True), (1, 2)), (0, 1)])
        rows = indexed(errors.InvalidFamily, [
            (BOX, None), (list(BOX[:3]), None), ((), None), (None, None), ((LIKE, LIKE, LIKE[:3]), 2),
            ((LIKE, (ONE,) * 4, LIKE), 1)])
        right = [("scenario", TREE), ("family", (LIKE,) * 3), ("reduction", STEPS)]
        self.holds(Spec(acyclic.joint_along, right,
                        {"scenario": NO_SCENARIO, "family": rows, "reduction": wrong},
                        [({"family": UNAGREED}, errors.NotAgreed, None, None)]))

    def test_family_against(self):
        wrong = given(errors.InvalidObstruction, [("cycle", (0, 3, 1, 2)), ["cycle", (0, 2, 1, 3)], None, (),
                                                  ("simplex", (0, 1, 2)), ("cycle", [0, 2, 1, 3])])
        self.holds(Spec(acyclic.family_against, [("scenario", BELL), ("obstruction", ("cycle", (0, 2, 1, 3)))],
                        {"scenario": NO_SCENARIO, "obstruction": wrong}))


class Games(Case):
    def test_with_a_family(self):
        for function in (games.game_value, games.most_value):
            right = [("scenario", BELL), ("game", GAME), ("family", BOX)]
            self.holds(Spec(function, right, {"scenario": NO_SCENARIO, "game": NO_GAME, "family": NO_FAMILY},
                            [({"family": SIGNALLING}, errors.NotAgreed, None, None)]))

    def test_game_alone(self):
        for function in (games.classical_value, games.no_signalling_value):
            self.holds(Spec(function, [("scenario", BELL), ("game", GAME)],
                            {"scenario": NO_SCENARIO, "game": NO_GAME}))

    def test_is_bound_of(self):
        bound = games.no_signalling_value(BELL, GAME)[2]
        for value in (bound, list(bound), None):
            self.holds(Spec(games.is_bound_of, [("scenario", BELL), ("game", GAME), ("value", value)],
                            {"scenario": NO_SCENARIO, "game": NO_GAME}))


class Inequalities(Case):
    def test_inequality_alone(self):
        for function in (inequalities.is_valid, inequalities.is_facet, inequalities.normal, relabellings.canonical):
            self.holds(Spec(function, [("scenario", BELL), ("inequality", INEQUALITY)],
                            {"scenario": NO_SCENARIO, "inequality": NO_INEQUALITY}))

    def test_led(self):
        self.holds(Spec(relabellings.led_family, [("scenario", BELL), ("relabelling", TURN), ("family", BOX)],
                        {"scenario": NO_SCENARIO, "relabelling": NO_RELABELLING, "family": NO_FAMILY},
                        [({"family": SIGNALLING}, errors.NotAgreed, None, None)]))
        right = [("scenario", BELL), ("relabelling", TURN), ("inequality", INEQUALITY)]
        self.holds(Spec(relabellings.led_inequality, right,
                        {"scenario": NO_SCENARIO, "relabelling": NO_RELABELLING, "inequality": NO_INEQUALITY}))

    def test_between(self):
        right = [("scenario", BELL), ("one", INEQUALITY), ("two", INEQUALITY)]
        self.holds(Spec(relabellings.between, right,
                        {"scenario": NO_SCENARIO, "one": NO_INEQUALITY, "two": NO_INEQUALITY}))

    def test_too_many(self):
        rows = (((NIL,) * 64,), ONE)
        changed = {"scenario": MANY, "inequality": rows}
        self.holds(Spec(relabellings.canonical, [("scenario", BELL), ("inequality", INEQUALITY)],
                        {"scenario": NO_SCENARIO}, [(changed, errors.TooMany, "given", 82944)]))
        changed = {"scenario": MANY, "one": rows, "two": rows}
        wrong = {"scenario": NO_SCENARIO, "one": NO_INEQUALITY, "two": NO_INEQUALITY}
        right = [("scenario", BELL), ("one", INEQUALITY), ("two", INEQUALITY)]
        self.holds(Spec(relabellings.between, right, wrong, [(changed, errors.TooMany, "given", 82944)]))


class Whatever(Case):
    """Every argument with an error may have any value: just that error is raised."""

    def test_any_scenario(self):
        told = [(scenarios.sections_of, ()), (scenarios.is_family, BOX), (scenarios.is_distribution, None),
                (scenarios.is_weights, WON), (scenarios.is_no_signalling, BOX), (scenarios.family_of, DISTRIBUTION),
                (joint.joint_or_inequality, BOX), (joint.local_bound, WON), (fractions.covering, BOX),
                (fractions.rest_of, BOX), (acyclic.is_reduction, ()), (acyclic.family_against, ()),
                (games.classical_value, GAME), (games.no_signalling_value, GAME), (inequalities.normal, INEQUALITY),
                (inequalities.is_facet, INEQUALITY), (relabellings.canonical, INEQUALITY)]
        for value in any_values():
            for function, second in told:
                self.refuses((errors.InvalidScenario, "given", value), function, value, second)

    def test_any_second(self):
        told = [(scenarios.family_of, errors.InvalidDistribution), (games.classical_value, errors.InvalidGame),
                (games.no_signalling_value, errors.InvalidGame), (inequalities.normal, errors.InvalidInequality),
                (inequalities.is_valid, errors.InvalidInequality), (relabellings.canonical, errors.InvalidInequality),
                (acyclic.family_against, errors.InvalidObstruction)]
        for value in any_values():
            for function, kind in told:
                self.refuses((kind, "given", value), function, BELL, value)
            if not isinstance(value, tuple) or len(value) != 4:
                for function in (joint.is_noncontextual, fractions.rest_of, scenarios.is_no_signalling):
                    self.refuses((errors.InvalidFamily, "index", None), function, BELL, value)
                self.refuses((errors.InvalidWeights, "index", None), joint.local_bound, BELL, value)
            wrong = BOX[:2] + ((value,) + LIKE[1:],) + BOX[3:]
            self.refuses((errors.InvalidFamily, "index", 2), joint.is_noncontextual, BELL, wrong)
            if repr(value) not in ("(0, 1)", "(1, 1)"):
                self.refuses((errors.InvalidFraction, "given", value), scenarios.mixture, BELL, BOX, BOX, value)


if __name__ == "__main__":
    unittest.main()
