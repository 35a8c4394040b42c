"""[3], [4] for wirings, supports, parities and vectors: each error, their order, arguments by position and by name."""

import unittest

from belltables import errors, markings, parity, possible, wirings
from tests.harness import Case, Spec
from tests.own import BELL, BOX, COIN, LIKE, NIL, ONE, TRIANGLE, UNLIKE, any_values, own_is_support, ring, secs
from tests.test_arguments import NO_FAMILY, NO_SCENARIO, SIGNALLING, given, indexed
from tests.test_markings import AXES, CABELLO
from tests.test_parity import ARGUMENT
from tests.test_possible import PARADOX, SAME, SIGNS
from tests.test_wirings import CHASE, FIRST, PAIR, THEN

READ = ("measure", 3, (THEN, FIRST))
NO_WIRING = given(errors.InvalidWiring, [
    (CHASE,), (CHASE, READ, READ), [CHASE, READ], None, (), (CHASE, ("tell", 2)), (CHASE, ("measure", 3, (FIRST,))),
    (("measure", 0, (FIRST, THEN)), ("measure", 1, (FIRST, THEN))), 0, "tell"])
NO_SUPPORT = indexed(errors.InvalidSupport, [
    (SIGNS[:3], None), (list(SIGNS), None), (None, None), (0, None), ("abcd", None), (SIGNS + (SAME,), None),
    ((), None),
    (((),) + SIGNS[1:], 0), ((SAME, SAME[::-1]) + SIGNS[2:], 1), (SIGNS[:3] + (((0, 2),),), 3),
    (SIGNS[:2] + (((0, 0), (0, 0)), ()), 2), ((SAME, list(SAME), None, None), 1), ((SAME, SAME, ((0, True),), 1), 2)])
NO_SECOND = indexed(errors.InvalidFamily, [
    (None, None), ((), None), (BOX, None), ([(ONE, NIL)], None), (((ONE, ONE),), 0), (((ONE,),), 0),
    (([ONE, NIL],), 0)])
NO_CONTEXT = given(errors.InvalidNumber, [4, -1, True, False, None, "0", (0,), 10 ** 30, []])
WIDE = ((3, 2), ((0, 1),))
WHOLE = ((4, 4, 4), ((0, 1, 2),))


def whole_support(scenario):
    return tuple(tuple(secs(scenario, context)) for context in scenario[1])


class Wirings(Case):
    def test_is_wiring(self):
        for value in ((CHASE, READ), [CHASE, READ], None, (CHASE,), [[]]):
            self.holds(Spec(wirings.is_wiring, [("scenario", BELL), ("other", PAIR), ("value", value)],
                            {"scenario": NO_SCENARIO, "other": NO_SCENARIO}))

    def test_wired(self):
        right = [("scenario", BELL), ("other", PAIR), ("wiring", (CHASE, FIRST)), ("family", BOX)]
        self.holds(Spec(wirings.wired, right,
                        {"scenario": NO_SCENARIO, "other": NO_SCENARIO, "wiring": NO_WIRING, "family": NO_FAMILY},
                        [({"family": SIGNALLING}, errors.NotAgreed, None, None)]))

    def test_beside(self):
        told = (TRIANGLE[0] + BELL[0], tuple(one + tuple(3 + x for x in two) for one in TRIANGLE[1] for two in BELL[1]))
        self.holds(Spec(wirings.beside, [("scenario", TRIANGLE), ("other", PAIR)],
                        {"scenario": NO_SCENARIO, "other": NO_SCENARIO},
                        [({"other": BELL}, errors.InvalidScenario, "given", told)]))

    def test_beside_families(self):
        right = [("scenario", BELL), ("family", BOX), ("other", COIN), ("second", ((ONE, NIL),))]
        wrong = {"scenario": NO_SCENARIO, "family": NO_FAMILY, "other": NO_SCENARIO, "second": NO_SECOND}
        self.holds(Spec(wirings.beside_families, right, wrong,
                        [({"family": SIGNALLING}, errors.NotAgreed, None, None)]))
        told = (BELL[0] * 2, tuple(one + tuple(4 + x for x in two) for one in BELL[1] for two in BELL[1]))
        wrong = {"scenario": NO_SCENARIO, "family": NO_FAMILY, "other": NO_SCENARIO}
        for family in (BOX, SIGNALLING):
            for second in (BOX, SIGNALLING):
                changed = {"family": family, "other": BELL, "second": second}
                for name in wrong:
                    self.refuses(wrong[name][0][1], wirings.beside_families,
                                 **{**dict(right), **changed, name: wrong[name][0][0]})
                self.holds(Spec(wirings.beside_families, right, {},
                                [(changed, errors.InvalidScenario, "given", told)]))
        self.refuses((errors.InvalidFamily, "index", 0), wirings.beside_families, BELL, BOX, BELL, ((ONE, ONE),) * 4)


class Possible(Case):
    def test_is_support(self):
        for value in (SIGNS, PARADOX, list(SIGNS), None, {}, [[]]):
            self.holds(Spec(possible.is_support, [("scenario", BELL), ("value", value)], {"scenario": NO_SCENARIO}))

    def test_support_of(self):
        for family in (BOX, SIGNALLING):
            self.holds(Spec(possible.support_of, [("scenario", BELL), ("family", family)],
                            {"scenario": NO_SCENARIO, "family": NO_FAMILY}))

    def test_support_alone(self):
        for function in (possible.is_consistent, possible.extending, possible.non_extending,
                         possible.contextuality_of, possible.hardy, possible.family_with, parity.parity_rows,
                         parity.solved_or_odd):
            for support in (SIGNS, PARADOX):
                self.holds(Spec(function, [("scenario", BELL), ("support", support)],
                                {"scenario": NO_SCENARIO, "support": NO_SUPPORT}))

    def test_extension(self):
        right = [("scenario", BELL), ("support", PARADOX), ("context", 3), ("section", (1, 0))]
        wrong = given(errors.InvalidSection, [
            (0, 0), (True, 0), (1, False), [1, 0], (1,), (1, 0, 0), (1, 2), None, "10", (), ((1,), 0)])
        self.holds(Spec(possible.extension, right, {"scenario": NO_SCENARIO, "support": NO_SUPPORT,
                                                    "context": NO_CONTEXT, "section": wrong}))
        self.holds(Spec(possible.extension, [("scenario", BELL), ("support", PARADOX), ("context", 0),
                                             ("section", (0, 0))], {}))

    def test_last_ones(self):
        right = [("scenario", BELL), ("support", SIGNS)]
        five = ring(5)
        uneven = (((0, 0),), SAME, SAME, SAME)
        self.holds(Spec(possible.hardy, right, {}, [
            ({"scenario": five, "support": whole_support(five)}, errors.Unfit, "given", five[1]),
            ({"support": uneven}, errors.Unfit, "given", uneven)]))
        self.holds(Spec(possible.hardy, right, {"scenario": NO_SCENARIO, "support": NO_SUPPORT},
                        [({"support": uneven}, errors.Unfit, "given", uneven)]))
        self.holds(Spec(possible.family_with, right, {}, [
            ({"scenario": WHOLE, "support": whole_support(WHOLE)}, errors.TooMany, "given", 64)]))
        for function in (parity.parity_rows, parity.solved_or_odd):
            self.holds(Spec(function, right, {}, [
                ({"scenario": WIDE, "support": whole_support(WIDE)}, errors.Unfit, "given", (3, 2))]))
            self.refuses((errors.InvalidSupport, "index", 0), function, WIDE, (((0, 2),),))

    def test_any_support(self):
        for value in any_values():
            for function in (possible.extending, possible.contextuality_of, possible.family_with, parity.parity_rows):
                if not own_is_support(BELL, value):
                    index = None if not isinstance(value, tuple) or len(value) != 4 else 0
                    self.refuses((errors.InvalidSupport, "index", index), function, BELL, value)
                if not own_is_support(BELL, SIGNS[:2] + (value, SAME)):
                    self.refuses((errors.InvalidSupport, "index", 2), function, BELL, SIGNS[:2] + (value, SAME))
                self.refuses((errors.InvalidScenario, "given", value), function, value, SIGNS)
            self.refuses((errors.InvalidWiring, "given", value), wirings.wired, BELL, COIN, value, BOX)
            self.refuses((errors.InvalidScenario, "given", value), wirings.beside, COIN, value)
            if type(value) is not int or not 0 <= value < 4:
                self.refuses((errors.InvalidNumber, "given", value), possible.extension, BELL, SIGNS, value, None)


class Parity(Case):
    def test_is_argument(self):
        for value in (ARGUMENT, list(ARGUMENT), None, {}, ARGUMENT[1:]):
            self.holds(Spec(parity.is_argument, [("scenario", BELL), ("value", value)], {"scenario": NO_SCENARIO},
                            [({"scenario": WIDE}, errors.Unfit, "given", (3, 2))]))


class Markings(Case):
    def test_all(self):
        wrong = indexed(errors.InvalidVectors, [
            (AXES + ((2, 2, 0),), 4), (None, None), ((), None), (list(AXES), None), (AXES + ((1, 2),), 4),
            (((0, 0, 0),), 0), (AXES[:1] * 2, 1), (0, None), (((1, 10), 7), 0)])
        for function in (markings.orthogonal_pairs, markings.bases_of, markings.marking, markings.odd_bases):
            for vectors in (AXES, CABELLO):
                self.holds(Spec(function, [("vectors", vectors)], {"vectors": wrong}))
        for value in (AXES, list(AXES), None, {}, AXES + AXES):
            self.holds(Spec(markings.are_vectors, [("value", value)], {}))


class Families(Case):
    def test_signalling_ones(self):
        """Supports are of any family."""
        self.assertEqual(possible.support_of(BELL, SIGNALLING)[3], ((1, 1),))
        self.assertEqual(possible.support_of(BELL, (LIKE, LIKE, LIKE, UNLIKE)), SIGNS)


if __name__ == "__main__":
    unittest.main()
