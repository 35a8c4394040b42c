"""[4]: the classes of errors, their bases and attributes."""

import unittest

from belltables import errors

GIVEN = (
    "InvalidScenario InvalidDistribution InvalidLot InvalidNumber InvalidFraction InvalidReduction InvalidObstruction "
    "InvalidGame InvalidInequality InvalidRelabelling InvalidWiring InvalidSection InvalidPauli Unfit TooMany "
    "InvalidRow InvalidLab InvalidTerm InvalidName InvalidPlan NotSettled InUse NotADesk").split()
INDEX = (
    "InvalidFamily InvalidWeights InvalidSupport InvalidVectors InvalidState InvalidPaulis InvalidContexts InvalidLog "
    "InvalidRounds").split()
PLACE = "InvalidText TwiceNamed UnknownName NoContext NoSection NoSum NoShare".split()
BARE = "NotAgreed NothingToUndo".split()
WORTHS = [None, 0, "text", (), [1], {"a": 1}, ((1, 2),), object(), True]


class ErrorClasses(unittest.TestCase):
    def test_bases(self):
        self.assertEqual(errors.LabError.__bases__, (ValueError,))
        for name in GIVEN + INDEX + PLACE + BARE:
            kind = getattr(errors, name)
            self.assertEqual(kind.__bases__, (errors.LabError,), name)
            self.assertEqual(kind.__module__, "belltables.errors")

    def test_no_others(self):
        kinds = {name for name, kind in vars(errors).items() if isinstance(kind, type)}
        self.assertEqual(kinds, set(GIVEN + INDEX + PLACE + BARE + ["LabError"]))

    def test_one_attribute(self):
        for names, attribute in ((GIVEN, "given"), (INDEX, "index")):
            for name in names:
                kind = getattr(errors, name)
                for worth in WORTHS:
                    self.assertEqual(vars(kind(worth)), {attribute: worth})
                    self.assertIs(getattr(kind(**{attribute: worth}), attribute), worth)
                with self.assertRaises(TypeError):
                    kind()

    def test_line_and_place(self):
        for name in PLACE:
            kind = getattr(errors, name)
            self.assertEqual(vars(kind(3, 13)), {"line": 3, "place": 13})
            self.assertEqual(vars(kind(place=13, line=3)), {"line": 3, "place": 13})
            self.assertEqual(vars(kind(None, None)), {"line": None, "place": None})

    def test_without(self):
        for name in BARE + ["LabError"]:
            self.assertEqual(vars(getattr(errors, name)()), {})

    def test_raised(self):
        with self.assertRaises(ValueError) as caught:
            raise errors.InvalidFamily(index=2)
        self.assertEqual(caught.exception.index, 2)


if __name__ == "__main__":
    unittest.main()
