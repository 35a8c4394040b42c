"""[44]: claims with papers that the package makes itself: the one that is so, of the arguments as they were passed."""

import unittest
from fractions import Fraction
from itertools import combinations, product

from belltables import errors
from belltables.acyclic import family_against, obstruction
from belltables.certificates import certify_family, certify_fraction, certify_scenario
from belltables.certifygames import certify_equivalent, certify_facet, certify_reaches, certify_wins
from belltables.certifylabs import certify_log, certify_memory
from belltables.certifysupports import (
    certify_family_with, certify_marking, certify_parities, certify_support, certify_valued)
from belltables.checker import accepts
from belltables.relabellings import led_inequality
from tests.harness import Case, Spec
from tests.judging import lines, own_accepts, own_tail, relabellings_told
from tests.own import (
    BELL, BOX, CHSH, COIN, FLAT, GAME, HALF, LARGE, LIKE, NIL, ONE, PATH, SMALL, TRIANGLE, UNLIKE, WON, Maker,
    any_values, frac, is_int, mix, own_is_fraction, own_is_support, own_possible, own_relabellings, own_sums,
    own_support, pair, ring, secs, worlds)
from tests.test_acyclic import RINGS, TREES, own_obstructions, small_scenarios
from tests.test_arguments import (
    NO_FAMILY, NO_GAME, NO_INEQUALITY, NO_SCENARIO, SIGNALLING, given, indexed)
from tests.test_calls import NO_SUPPORT, WHOLE, WIDE, whole_support
from tests.test_checker import BOUND, COVERING, EXCLUDED, OTHERS, right_ones
from tests.test_inequalities import combined, own_facet, positive, same
from tests.test_logs import LOG, drawn_log, own_tables
from tests.test_markings import AXES, CABELLO, own_multiple, pool
from tests.test_memory import NO_COUNT
from tests.test_parity import PAIRED, SIGNS, drawn_supports, own_rows, solves
from tests.test_paulis import (
    LINES, NO_CONTEXTS, NO_PAULIS, POINTS, SIDES, SQUARE, STAR, TESTS, drawn_paulis, mean_alone)
from tests.test_paulis import own_rows as pauli_rows_of
from tests.test_possible import BARRED, PARADOX, SAME, drawn_consistent, drawn_support

FACET = (WON, (3, 1))
LITTLE = Fraction(1, 10 ** 30)
NO_FRACTION = given(errors.InvalidFraction, [
    (2, 4), (1, 0), (1, -2), 1, 0, True, None, [1, 2], (1, 2, 3), (True, 2), (1, True), (0, 2), "1/2", (-2, 4), ()])
NO_CHANCE = NO_FRACTION + given(errors.InvalidFraction, [(-1, 2), (3, 2), (-1, 10 ** 60)])


class Certified(Case):
    def judge(self, function, word, *given_ones, told=()):
        """The claim of this word, made of what was passed and told; its paper is right, the excluded one's is none."""
        answer = function(*given_ones)
        self.assertTrue(type(answer) is tuple and len(answer) == 2)
        claim, paper = answer
        self.assertIs(type(claim), tuple)
        self.assertEqual(claim[0], word)
        self.assertEqual(repr(claim[1:]), repr(given_ones + told))
        for inside, passed in zip(claim[1:], given_ones):
            self.assertIs(inside, passed)
        self.assertIs(own_accepts(claim, paper), True, answer)
        self.assertIs(accepts(claim, paper), True, answer)
        if word in OTHERS:
            self.assertIs(accepts((OTHERS[word],) + claim[1:], paper), False)
            self.assertIs(accepts((OTHERS[word],) + claim[1:], ()), False)
        return paper

    def no_other(self, claim, paper, others):
        """This paper is one for none of the other claims, but for those that are the same question."""
        for other in others:
            if other[0] != claim[0]:
                self.assertIs(accepts(other, paper), own_accepts(other, paper))


class Families(Certified):
    def test_drawn(self):
        maker = Maker(231)
        words = {}
        for scenario in SMALL + LARGE:
            for family in (maker.family(scenario, 9, 40), maker.joint_family(scenario, 9, 60)):
                claim, _ = certify_family(scenario, family)
                words[claim[0]] = words.get(claim[0], 0) + 1
                self.judge(certify_family, claim[0], scenario, family)
            self.judge(certify_family, "noncontextual", scenario, maker.joint_family(scenario))
        self.assertGreater(min(words.values()), 10)

    def test_at_the_edge(self):
        """Noncontextual up to a half of the box, and not a little more."""
        for more in (Fraction(0), LITTLE, -LITTLE, Fraction(1, 2), Fraction(-1, 2)):
            family = mix(BOX, FLAT, Fraction(1, 2) + more)
            self.judge(certify_family, "contextual" if more > 0 else "noncontextual", BELL, family)
            number = max(2 * more, Fraction(0))
            self.judge(certify_fraction, "fraction", BELL, family, told=(pair(number),))

    def test_against(self):
        for scenario in RINGS:
            family = family_against(scenario, obstruction(scenario))
            self.judge(certify_family, "contextual", scenario, family)
            self.judge(certify_fraction, "fraction", scenario, family, told=(ONE,))

    def test_fractions(self):
        """The number by papers both ways, so there is one alone."""
        maker = Maker(232)
        numbers = set()
        for scenario in SMALL:
            for family in (maker.family(scenario, 9, 40), maker.joint_family(scenario), maker.family(scenario)):
                claim, _ = certify_fraction(scenario, family)
                self.assertTrue(own_is_fraction(claim[3]))
                self.judge(certify_fraction, "fraction", scenario, family, told=(claim[3],))
                numbers.add(claim[3])
        self.assertGreater(len(numbers), 15)
        self.judge(certify_fraction, "fraction", BELL, BOX, told=(ONE,))
        self.judge(certify_fraction, "fraction", BELL, mix(BOX, FLAT, Fraction(3, 4)), told=(HALF,))
        self.assertIs(accepts(("fraction", BELL, BOX, ONE), ((NIL,) * 16, COVERING)), True)

    def test_scenarios(self):
        for scenario in list(small_scenarios()) + TREES + RINGS + SMALL + LARGE:
            word = "cyclic" if own_obstructions(scenario) else "acyclic"
            self.judge(certify_scenario, word, scenario)

    def test_calls(self):
        for function in (certify_family, certify_fraction):
            for family in (BOX, FLAT, SIGNALLING):
                self.holds(Spec(function, [("scenario", BELL), ("family", family)],
                                {"scenario": NO_SCENARIO, "family": NO_FAMILY}))
        for scenario in (BELL, PATH):
            self.holds(Spec(certify_scenario, [("scenario", scenario)], {"scenario": NO_SCENARIO}))


class Games(Certified):
    def test_wins_and_reaches(self):
        maker = Maker(233)
        for scenario in SMALL:
            for _ in range(3):
                game = maker.game(scenario)
                best = max(own_sums(scenario, lines(game)))
                # Bound and family judge the number from both sides.
                most = sum(frac(number) for number in certify_reaches(scenario, game, (2, 1))[1][0])
                self.assertGreaterEqual(most, best)
                for more in (Fraction(0), LITTLE, -LITTLE, Fraction(3), Fraction(-3)):
                    word = "wins" if more <= 0 else "wins less"
                    self.judge(certify_wins, word, scenario, game, pair(best + more))
                    word = "reaches" if more <= 0 else "reaches less"
                    self.judge(certify_reaches, word, scenario, game, pair(most + more))

    def test_known(self):
        for number, wins, reaches in (((3, 4), "wins", "reaches"), ((4, 5), "wins less", "reaches"),
                                      (ONE, "wins less", "reaches"), ((11, 10), "wins less", "reaches less"),
                                      (NIL, "wins", "reaches"), ((-7, 1), "wins", "reaches")):
            self.judge(certify_wins, wins, BELL, GAME, number)
            self.judge(certify_reaches, reaches, BELL, GAME, number)
        self.assertIs(accepts(("reaches less", BELL, GAME, (11, 10)), BOUND), True)

    def test_large_ones(self):
        maker = Maker(234)
        for scenario in LARGE:
            game = maker.game(scenario)
            best = max(own_sums(scenario, lines(game)))
            self.judge(certify_wins, "wins", scenario, game, pair(best))
            self.judge(certify_reaches, "reaches", scenario, game, pair(best))
            self.judge(certify_reaches, "reaches less", scenario, game, pair(1 + LITTLE))

    def facets(self, scenario):
        """Inequalities at their bounds, hardly above, hardly below, and sums of two."""
        maker = Maker(235)
        found = []
        for _ in range(4):
            weights = maker.weights(scenario)
            best = max(own_sums(scenario, weights))
            found += [(weights, pair(best + more)) for more in (Fraction(0), LITTLE, -LITTLE)]
        ones = [positive(scenario, at, maker.random.randrange(len(secs(scenario, context))))
                for at, context in enumerate(scenario[1])]
        return found + ones + [combined(one, two) for one, two in zip(ones, ones[1:])]

    def test_facets(self):
        words = {}
        for scenario in SMALL:
            for inequality in self.facets(scenario):
                sums = own_sums(scenario, inequality[0])
                word = "broken" if max(sums) > frac(inequality[1]) else (
                    "facet" if own_facet(scenario, inequality) else "no facet")
                words[word] = words.get(word, 0) + 1
                paper = self.judge(certify_facet, word, scenario, inequality)
                for other in {"facet", "no facet", "broken", "valid"} - {word, "valid" if word != "broken" else word}:
                    self.assertIs(accepts((other, scenario, inequality), paper), False)
                self.assertIs(accepts(("valid", scenario, inequality), ()), word != "broken")
        self.assertGreater(min(words.values()), 10)
        self.assertEqual(set(words), {"broken", "facet", "no facet"})

    def test_known_facets(self):
        maker = Maker(236)
        for inequality in (FACET, (CHSH, (2, 1)), positive(BELL, 2, 1)):
            self.judge(certify_facet, "facet", BELL, inequality)
            for other in list(same(BELL, inequality, maker))[:6]:
                self.judge(certify_facet, "facet", BELL, other)
        self.judge(certify_facet, "no facet", BELL, (WON, (4, 1)))
        self.judge(certify_facet, "no facet", BELL, (WON, pair(3 + LITTLE)))
        self.judge(certify_facet, "broken", BELL, (WON, pair(3 - LITTLE)))
        self.judge(certify_facet, "no facet", BELL, (tuple((NIL,) * 4 for _ in range(4)), NIL))
        for scenario in LARGE[:3] + LARGE[7:9]:
            self.judge(certify_facet, "facet", scenario, positive(scenario, 0, 1))

    def test_equivalent(self):
        maker = Maker(237)
        words = {}
        for scenario in [BELL, TRIANGLE, PATH, COIN, SMALL[2], SMALL[7], ((4, 2, 2), ((0,), (1, 2)))]:
            every = own_relabellings(scenario)
            for one in (positive(scenario, 0, 0), (maker.weights(scenario), maker.number())):
                led = led_inequality(scenario, maker.random.choice(every), one)
                for other in list(same(scenario, led, maker))[:4]:
                    self.judge(certify_equivalent, "equivalent", scenario, one, other)
                for other in ((led[0], pair(frac(led[1]) + LITTLE)), (maker.weights(scenario), maker.number()),
                              (tuple(tuple((-a, b) for a, b in row) for row in led[0]), led[1])):
                    word = certify_equivalent(scenario, one, other)[0][0]
                    words[word] = words.get(word, 0) + 1
                    self.judge(certify_equivalent, word, scenario, one, other)
            self.assertLessEqual(len(relabellings_told(scenario)), 5000)
        self.assertGreater(words["not equivalent"], 10)
        self.judge(certify_equivalent, "equivalent", BELL, FACET, (CHSH, (2, 1)))
        self.judge(certify_equivalent, "not equivalent", BELL, FACET, (WON, (4, 1)))

    def test_calls(self):
        for function in (certify_wins, certify_reaches):
            for number in ((3, 4), (9, 10), (5, 2), (-1, 2)):
                self.holds(Spec(function, [("scenario", BELL), ("game", GAME), ("number", number)],
                                {"scenario": NO_SCENARIO, "game": NO_GAME, "number": NO_FRACTION}))
        for inequality in (FACET, (WON, (4, 1)), (WON, (2, 1))):
            self.holds(Spec(certify_facet, [("scenario", BELL), ("inequality", inequality)],
                            {"scenario": NO_SCENARIO, "inequality": NO_INEQUALITY}))
        rows = (((NIL,) * 64,), ONE)
        for two in (FACET, (CHSH, (2, 1)), (WON, (4, 1))):
            self.holds(Spec(certify_equivalent, [("scenario", BELL), ("one", FACET), ("two", two)],
                            {"scenario": NO_SCENARIO, "one": NO_INEQUALITY, "two": NO_INEQUALITY},
                            [({"scenario": WHOLE, "one": rows, "two": rows}, errors.TooMany, "given", 82944)]))


class Supports(Certified):
    def test_supports(self):
        maker = Maker(238)
        words = {}
        for scenario in SMALL + LARGE:
            for support in [drawn_support(maker, scenario, share) for share in (20, 50, 90)] + drawn_consistent(
                    maker, scenario, 2):
                word = "possible" if own_possible(scenario, support) else "strongly contextual"
                words[word] = words.get(word, 0) + 1
                self.judge(certify_support, word, scenario, support)
        self.assertGreater(min(words.values()), 10)
        self.judge(certify_support, "strongly contextual", BELL, SIGNS)
        self.judge(certify_support, "possible", BELL, PARADOX)
        self.judge(certify_support, "possible", BELL, (SAME,) * 4)

    def test_families_with(self):
        maker = Maker(239)
        words = {}
        for scenario in SMALL + LARGE:
            points = maker.random.sample(worlds(scenario), 2)
            for support in [drawn_support(maker, scenario, 40), own_support(scenario, points)] + drawn_consistent(
                    maker, scenario, 2):
                if sum(map(len, support)) <= 32:
                    word = certify_family_with(scenario, support)[0][0]
                    words[word] = words.get(word, 0) + 1
                    self.judge(certify_family_with, word, scenario, support)
        self.assertGreater(min(words.values()), 10)
        self.judge(certify_family_with, "family with", BELL, SIGNS)
        self.judge(certify_family_with, "family with", BELL, PARADOX)
        self.judge(certify_family_with, "no family with", BELL, BARRED)

    def test_parities(self):
        maker = Maker(240)
        words = {}
        for scenario in PAIRED:
            for support in drawn_supports(maker, scenario):
                is_solved = any(all(solves(world, row) for row in own_rows(scenario, support))
                                for world in worlds(scenario))
                word = "parities solved" if is_solved else "all versus nothing"
                words[word] = words.get(word, 0) + 1
                self.judge(certify_parities, word, scenario, support)
        self.assertGreater(min(words.values()), 5)
        self.assertEqual(set(words), {"parities solved", "all versus nothing"})

    def test_markings(self):
        maker = Maker(241)
        self.judge(certify_marking, "marking", AXES)
        self.judge(certify_marking, "Kochen-Specker", CABELLO)
        for left in ((0, 17), (3, 4), (8, 9)):
            self.judge(certify_marking, "marking", tuple(v for at, v in enumerate(CABELLO) if at not in left))
        for many, most in ((2, 9), (3, 2), (4, 1)):
            for _ in range(3):
                drawn = tuple(maker.random.sample(pool(many, most), 12))
                self.judge(certify_marking, "marking", drawn)
        more = [vector for vector in pool(4, 1) if not any(own_multiple(vector, other) for other in CABELLO)]
        for many in (1, 13):
            self.judge(certify_marking, "Kochen-Specker", tuple(maker.random.sample(list(CABELLO) + more[:many],
                                                                                    18 + many)))

    def test_valued(self):
        maker = Maker(242)
        for paulis, contexts in ((SQUARE, LINES), (STAR, POINTS)):
            self.judge(certify_valued, "odd whatever the state", paulis, contexts)
            self.judge(certify_valued, "valued", paulis, contexts[1:])
        self.judge(certify_valued, "valued", SIDES, TESTS)
        words = {}
        for _ in range(12):
            paulis, contexts = drawn_paulis(maker, 2, maker.random.randint(9, 15), 40, 1)
            rows = pauli_rows_of(paulis, contexts, mean_alone)
            word = certify_valued(paulis, contexts)[0][0]
            words[word] = words.get(word, 0) + 1
            paper = self.judge(certify_valued, word, paulis, contexts)
            self.assertTrue(set(paper) <= set(rows) if word != "valued" else all(solves(paper, row) for row in rows))
        self.assertEqual(len(words), 2)

    def test_calls(self):
        for function, supports in ((certify_support, (SIGNS, PARADOX)), (certify_family_with, (SIGNS, BARRED)),
                                   (certify_parities, (SIGNS, PARADOX))):
            for support in supports:
                self.holds(Spec(function, [("scenario", BELL), ("support", support)],
                                {"scenario": NO_SCENARIO, "support": NO_SUPPORT}))
        right = [("scenario", BELL), ("support", SIGNS)]
        self.holds(Spec(certify_family_with, right, {}, [
            ({"scenario": WHOLE, "support": whole_support(WHOLE)}, errors.TooMany, "given", 64)]))
        self.holds(Spec(certify_parities, right, {}, [
            ({"scenario": WIDE, "support": whole_support(WIDE)}, errors.Unfit, "given", (3, 2))]))
        wrong = indexed(errors.InvalidVectors, [
            (AXES + ((2, 2, 0),), 4), (None, None), ((), None), (list(AXES), None), (AXES + ((1, 2),), 4),
            (((0, 0, 0),), 0), (AXES[:1] * 2, 1), (0, None), (((1, 10), 7), 0)])
        for vectors in (AXES, CABELLO):
            self.holds(Spec(certify_marking, [("vectors", vectors)], {"vectors": wrong}))
        wrong = {"paulis": NO_PAULIS, "contexts": NO_CONTEXTS}
        self.holds(Spec(certify_valued, [("paulis", SIDES), ("contexts", TESTS)], wrong))
        self.holds(Spec(certify_valued, [("paulis", SQUARE), ("contexts", LINES)], {}))


class Labs(Certified):
    def test_logs(self):
        maker = Maker(243)
        for scenario in SMALL + LARGE:
            for many in (0, 1, 4, 30):
                log = drawn_log(maker, scenario, many)
                family = maker.family(scenario)
                best = tuple(other if row is None else row for row, other in zip(own_tables(scenario, log), family))
                self.judge(certify_log, "most likely", scenario, log, best)
                for other in (family, mix(best, family, 1 - LITTLE), mix(best, family, Fraction(1, 2))):
                    word = "most likely" if other == best or many == 0 else "not most likely"
                    if any(row is not None and row != line for row, line in zip(own_tables(scenario, log), other)):
                        word = "not most likely"
                    self.judge(certify_log, word, scenario, log, other)

    def test_known_logs(self):
        self.judge(certify_log, "not most likely", BELL, LOG, BOX)
        self.judge(certify_log, "most likely", BELL, (), BOX)
        self.judge(certify_log, "most likely", BELL, LOG[:2], BOX)
        # A chance of 0, too.
        self.judge(certify_log, "not most likely", BELL, ((0, (0, 1)),), BOX)
        self.judge(certify_log, "most likely", BELL, ((0, (0, 1)),) * 400, ((NIL, ONE, NIL, NIL), LIKE, UNLIKE, LIKE))

    def test_memory(self):
        """At the tail, above and below it; by a best assignment."""
        maker = Maker(244)
        words = {}
        for scenario in (BELL, TRIANGLE, PATH, COIN, SMALL[8]):
            for game in (maker.game(scenario), maker.game(scenario)):
                best = max(own_sums(scenario, lines(game)))
                for number, wins in ((0, 0), (0, 1), (1, 1), (3, 2), (3, 4), (7, 5), (100, 71), (100, 0), (2, 100)):
                    top = own_tail(number, wins, best)
                    for more in (Fraction(0), LITTLE, -LITTLE, Fraction(1, 7), Fraction(-1, 7)):
                        share = min(max(top + more, Fraction(0)), Fraction(1))
                        word = "never more" if top <= share else "at times more"
                        words[word] = words.get(word, 0) + 1
                        self.judge(certify_memory, word, scenario, game, number, wins, pair(share))
        self.assertGreater(min(words.values()), 40)
        self.judge(certify_memory, "never more", BELL, GAME, 2, 1, (15, 16))
        self.judge(certify_memory, "at times more", BELL, GAME, 2, 1, (14, 15))

    def test_calls(self):
        logs = indexed(errors.InvalidLog, [
            (LOG + ((0, (0, 2)),), 3), (None, None), (list(LOG), None), (LOG[:1] * 401, None), (((0, [0, 0]),), 0),
            (LOG + (None,), 3), ("ab", None), (((True, (0, 0)),), 0)])
        for family in (BOX, SIGNALLING):
            for log in (LOG, (), LOG[:2]):
                self.holds(Spec(certify_log, [("scenario", BELL), ("log", log), ("family", family)],
                                {"scenario": NO_SCENARIO, "log": logs, "family": NO_FAMILY}))
        for share in ((15, 16), HALF, NIL, ONE):
            right = [("scenario", BELL), ("game", GAME), ("number", 2), ("wins", 1), ("share", share)]
            self.holds(Spec(certify_memory, right, {"scenario": NO_SCENARIO, "game": NO_GAME, "number": NO_COUNT,
                                                    "wins": NO_COUNT, "share": NO_CHANCE}))


class Whatever(Certified):
    """Every argument with an error may have any value: just that error is raised."""

    def test_scenarios(self):
        told = [(certify_family, (BOX,)), (certify_fraction, (BOX,)), (certify_scenario, ()), (certify_wins, (GAME,
                                                                                                              ONE)),
                (certify_reaches, (GAME, ONE)), (certify_facet, (FACET,)), (certify_equivalent, (FACET, FACET)),
                (certify_support, (SIGNS,)), (certify_family_with, (SIGNS,)), (certify_parities, (SIGNS,)),
                (certify_log, ((), BOX)), (certify_memory, (GAME, 1, 1, ONE))]
        for value in any_values():
            for function, more in told:
                self.refuses((errors.InvalidScenario, "given", value), function, value, *more)

    def test_others(self):
        for value in any_values():
            for function, more in ((certify_wins, (ONE,)), (certify_reaches, (ONE,)), (certify_memory, (1, 1, ONE))):
                self.refuses((errors.InvalidGame, "given", value), function, BELL, value, *more)
            self.refuses((errors.InvalidInequality, "given", value), certify_facet, BELL, value)
            self.refuses((errors.InvalidInequality, "given", value), certify_equivalent, BELL, value, FACET)
            self.refuses((errors.InvalidInequality, "given", value), certify_equivalent, BELL, FACET, value)
            if not own_is_fraction(value):
                for function in (certify_wins, certify_reaches):
                    self.refuses((errors.InvalidFraction, "given", value), function, BELL, GAME, value)
                self.refuses((errors.InvalidFraction, "given", value), certify_memory, BELL, GAME, 1, 1, value)
            if not is_int(value) or not 0 <= value <= 100:
                self.refuses((errors.InvalidNumber, "given", value), certify_memory, BELL, GAME, value, 1, ONE)
                self.refuses((errors.InvalidNumber, "given", value), certify_memory, BELL, GAME, 1, value, ONE)
            if not own_is_support(COIN, value):
                index = 0 if isinstance(value, tuple) and len(value) == 1 else None
                for function in (certify_support, certify_family_with, certify_parities):
                    self.refuses((errors.InvalidSupport, "index", index), function, COIN, value)


class Crosswise(Certified):
    def test_papers_of_others(self):
        """What is made for one claim, beside all others."""
        made = [certify_family(BELL, BOX), certify_family(BELL, FLAT), certify_fraction(BELL, BOX),
                certify_scenario(BELL),
                certify_scenario(PATH), certify_wins(BELL, GAME, (3, 4)), certify_wins(BELL, GAME, ONE),
                certify_reaches(BELL, GAME, ONE), certify_reaches(BELL, GAME, (2, 1)), certify_facet(BELL, FACET),
                certify_facet(BELL, (WON, (4, 1))), certify_facet(BELL, (WON, (2, 1))),
                certify_equivalent(BELL, FACET, (CHSH, (2, 1))), certify_equivalent(BELL, FACET, (WON, (4, 1))),
                certify_support(BELL, SIGNS), certify_support(BELL, PARADOX), certify_family_with(BELL, SIGNS),
                certify_family_with(BELL, BARRED), certify_parities(BELL, SIGNS), certify_parities(BELL, PARADOX),
                certify_marking(AXES), certify_marking(CABELLO), certify_valued(SIDES, TESTS),
                certify_valued(SQUARE, LINES), certify_log(BELL, LOG, BOX), certify_log(BELL, (), BOX),
                certify_memory(BELL, GAME, 2, 1, HALF), certify_memory(BELL, GAME, 2, 1, (15, 16))]
        claims = [claim for claim, _ in made] + [claim for claim, _ in right_ones()]
        claims += [(OTHERS[claim[0]],) + claim[1:] for claim in claims if claim[0] in OTHERS]
        for claim, paper in made:
            self.no_other(claim, paper, claims)
        words = {claim[0] for claim, _ in made}
        self.assertLessEqual({word for word in list(EXCLUDED) + list(EXCLUDED.values())} - words,
                             {"valid", "extends", "does not extend"})

    def test_rings(self):
        """Rings of all lengths: obstruction, family, support, parities, game, all told by the same papers."""
        for many in (3, 4, 5, 6):
            scenario = ring(many)
            rows = (LIKE,) * (many - 1) + (UNLIKE,)
            support = (SAME,) * (many - 1) + (((0, 1), (1, 0)),)
            self.judge(certify_scenario, "cyclic", scenario)
            self.judge(certify_family, "contextual", scenario, rows)
            self.judge(certify_fraction, "fraction", scenario, rows, told=(ONE,))
            self.judge(certify_support, "strongly contextual", scenario, support)
            self.judge(certify_family_with, "family with", scenario, support)
            self.judge(certify_parities, "all versus nothing", scenario, support)
            game = (((1, many),) * many, tuple(tuple(int(number != NIL) for number in row) for row in rows))
            self.judge(certify_reaches, "reaches", scenario, game, ONE)
            self.judge(certify_wins, "wins", scenario, game, (many - 1, many))
            self.judge(certify_wins, "wins less", scenario, game, pair(Fraction(many - 1, many) + LITTLE))

    def test_all_small_supports(self):
        """All supports of two observables, alone and together."""
        sections = [(0,), (1,)]
        rows = [tuple(told) for size in (1, 2) for told in combinations(sections, size)]
        apart = ((2, 2), ((0,), (1,)))
        for support in product(rows, repeat=2):
            self.judge(certify_support, "possible", apart, support)
            self.judge(certify_family_with, "family with", apart, support)
            self.judge(certify_parities, "parities solved", apart, support)


if __name__ == "__main__":
    unittest.main()
