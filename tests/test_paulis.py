"""[30] to [32]: Pauli operators, states, tables, parity rows in a state and of the operators alone."""

import unittest
from fractions import Fraction
from itertools import combinations, permutations, product

from belltables import errors
from belltables.fractions import contextual_fraction
from belltables.parity import is_argument
from belltables.paulis import (
    do_commute, family_or_odd, group_of, is_pauli, is_state, mean_of, pauli_family, pauli_product, pauli_rows,
    pauli_scenario, valued_or_odd)
from belltables.scenarios import is_family, is_no_signalling, is_scenario
from tests.harness import Case, Spec
from tests.own import Maker, any_values, bent, frac, is_int, own_family, own_told, pairs, secs, worlds
from tests.test_arguments import given, indexed

GHZ = ((1, "XXX"), (1, "ZZI"), (1, "IZZ"))
SIDES = ((1, "XII"), (1, "IXI"), (1, "IIX"), (1, "YII"), (1, "IYI"), (1, "IIY"))
TESTS = ((0, 1, 2), (0, 4, 5), (1, 3, 5), (2, 3, 4))
SQUARE = ((1, "XI"), (1, "IX"), (1, "XX"), (1, "IZ"), (1, "ZI"), (1, "ZZ"), (1, "XZ"), (1, "ZX"), (1, "YY"))
LINES = ((0, 1, 2), (0, 3, 6), (1, 4, 7), (2, 5, 8), (3, 4, 5), (6, 7, 8))
STAR = SIDES + ((1, "XXX"), (1, "XYY"), (1, "YXY"), (1, "YYX"))
POINTS = ((0, 1, 2, 6), (0, 4, 5, 7), (1, 3, 5, 8), (2, 3, 4, 9), (6, 7, 8, 9))
NUMBERS = {"I": ((1, 0), (0, 1)), "X": ((0, 1), (1, 0)), "Y": ((0, -1j), (1j, 0)), "Z": ((1, 0), (0, -1))}
ALL = [(sign, "".join(letters)) for many in (1, 2, 3) for letters in product("IXYZ", repeat=many) for sign in (1, -1)]


def matrix(pauli):
    """The operator's numbers, row by column."""
    rows = [[complex(pauli[0])]]
    for letter in pauli[1]:
        rows = [[a * b for a in row for b in line] for row in rows for line in NUMBERS[letter]]
    return rows


def times(one, other):
    columns = list(zip(*other))
    return [[sum(a * b for a, b in zip(row, column)) for column in columns] for row in one]


def scaled(power, rows):
    return [[(1, 1j, -1, -1j)[power] * number for number in row] for row in rows]


def plus_one(rows, sign):
    """1 and the sign times the rows."""
    return [[sign * number + (1 if i == j else 0) for j, number in enumerate(row)] for i, row in enumerate(rows)]


def trace_with(state, parts):
    """The mean, in a state, of the product of some rows."""
    rows = plus_one(matrix(state[0]), 1)
    for more in [plus_one(matrix(pauli), 1) for pauli in state[1:]] + parts:
        rows = times(rows, more)
    whole = sum(rows[at][at] for at in range(len(rows)))
    assert whole.imag == 0
    return Fraction(int(whole.real), 2 ** len(state))


def own_commute(one, other):
    return times(matrix(one), matrix(other)) == times(matrix(other), matrix(one))


def own_is_pauli(value):
    return (type(value) is tuple and len(value) == 2 and is_int(value[0]) and value[0] in (1, -1)
            and type(value[1]) is str and 1 <= len(value[1]) <= 3 and set(value[1]) <= set("IXYZ"))


def own_lot_letters(paulis):
    """The letters of the products of all lots."""
    found = set()
    for many in range(len(paulis) + 1):
        for lot in combinations(paulis, many):
            letters = ["I"] * len(paulis[0][1])
            for _, more in lot:
                letters = [next(c for c in "IXYZ" if any(
                    times(NUMBERS[a], NUMBERS[b]) == scaled(power, NUMBERS[c]) for power in range(4)))
                    for a, b in zip(letters, more)]
            found.add("".join(letters))
    return found


def own_wrong_state(value):
    """What InvalidState tells; True if nothing is wrong."""
    if type(value) is not tuple or not 1 <= len(value) <= 3:
        return None
    for at, pauli in enumerate(value):
        if not own_is_pauli(pauli) or len(pauli[1]) != len(value):
            return at
        if not all(own_commute(pauli, other) for other in value[:at]):
            return at
        if pauli[1] in (own_lot_letters(value[:at]) if at else {"I" * len(value)}):
            return at
    return True


def drawn_state(maker, many):
    while True:
        state = tuple((maker.random.choice((1, -1)), "".join(maker.random.choices("IXYZ", k=many)))
                      for _ in range(many))
        if own_wrong_state(state) is True:
            return state


def drawn_paulis(maker, places, many, lots, keep=0.8):
    """Paulis, and contexts of such as commute."""
    letters = ["".join(told) for told in product("IXYZ", repeat=places)][1:]
    paulis = tuple((maker.random.choice((1, -1)), told)
                   for told in maker.random.sample(letters, min(many, len(letters))))
    found = {(x,) for x in range(len(paulis))}
    for _ in range(lots):
        lot = []
        for x in maker.random.sample(range(len(paulis)), len(paulis)):
            if all(own_commute(paulis[x], paulis[y]) for y in lot) and maker.random.random() < keep:
                lot.append(x)
        if lot:
            found.add(tuple(sorted(lot)))
    kept = {lot for lot in found if not any(set(lot) < set(other) for other in found)}
    return paulis, tuple(sorted(kept))


def own_rows(paulis, contexts, mean):
    """The parity rows by the means of products, told by a function of rows of numbers."""
    found = []
    for at, context in enumerate(contexts):
        for many in range(1, len(context) + 1):
            for lot in combinations(context, many):
                rows = matrix(paulis[lot[0]])
                for x in lot[1:]:
                    rows = times(rows, matrix(paulis[x]))
                worth = mean(rows)
                if worth:
                    found.append((at, lot, 0 if worth == 1 else 1))
    return tuple(sorted(found))


def mean_alone(rows):
    """1 or -1 if the product is that of all I; else 0."""
    if all(rows[i][j] == (rows[0][0] if i == j else 0) for i in range(len(rows)) for j in range(len(rows))):
        return int(rows[0][0].real)
    return 0


def solves(outcomes, row):
    return sum(outcomes[x] for x in row[1]) % 2 == row[2]


class Operators(Case):
    def test_products(self):
        for many in (1, 2):
            some = [pauli for pauli in ALL if len(pauli[1]) == many]
            for one, other in product(some, repeat=2):
                power, letters = pauli_product(one, other)
                self.assertTrue(is_int(power) and 0 <= power < 4)
                self.assertEqual(scaled(power, matrix((1, letters))), times(matrix(one), matrix(other)))
                self.assertIs(do_commute(one, other), own_commute(one, other))
        maker = Maker(131)
        threes = [pauli for pauli in ALL if len(pauli[1]) == 3]
        for _ in range(300):
            one, other = maker.random.choice(threes), maker.random.choice(threes)
            power, letters = pauli_product(one, other)
            self.assertEqual(scaled(power, matrix((1, letters))), times(matrix(one), matrix(other)))
            back, same = pauli_product(other, one)
            self.assertEqual(same, letters)
            self.assertEqual(do_commute(one, other), power == back)
            self.assertEqual((power - back) % 4, 0 if own_commute(one, other) else 2)

    def test_three_either_way(self):
        maker = Maker(132)
        for _ in range(300):
            many = maker.random.randint(1, 3)
            a, b, c = (maker.random.choice([pauli for pauli in ALL if len(pauli[1]) == many]) for _ in range(3))
            first, left = pauli_product(a, b)
            then, told = pauli_product((1, left), c)
            other, right = pauli_product(b, c)
            last, same = pauli_product(a, (1, right))
            self.assertEqual(((first + then) % 4, told), ((other + last) % 4, same))

    def test_is_pauli(self):
        for right in ALL:
            self.assertIs(is_pauli(right), True)
        told = {True: 0, False: 0}
        for value in [wrong for right in ((1, "XYZ"), (-1, "I"), (1, "ZI")) for wrong in bent(right)] + any_values() + [
                (value, "X") for value in any_values()] + [(1, value) for value in any_values()] + [
                (1, ""), (1, "XXXX"), (0, "X"), (2, "X"), (True, "X"), (1, "x"), (1, "A"), (1, "X "), (1, ("X",)),
                (1, b"X"), ("1", "X"), [1, "X"], (1, "X", "X"), (1,), ("X", 1), (1, ["X"]), (-2, "X")]:
            is_right = own_is_pauli(value)
            told[is_right] += 1
            self.assertIs(is_pauli(value), is_right, value)
        self.assertGreater(told[True], 0)


class States(Case):
    def test_right(self):
        maker = Maker(133)
        self.assertIs(is_state(GHZ), True)
        for many in (1, 2, 3):
            for _ in range(20):
                self.assertIs(is_state(drawn_state(maker, many)), True)

    def test_drawn(self):
        """Rows of operators, right and wrong: which is the first one that is wrong."""
        maker = Maker(134)
        told = {}
        for many in (1, 2, 3):
            for _ in range(150):
                value = tuple((maker.random.choice((1, -1)), "".join(maker.random.choices("IXYZ", k=many)))
                              for _ in range(many))
                wrong = own_wrong_state(value)
                told[wrong] = told.get(wrong, 0) + 1
                self.assertIs(is_state(value), wrong is True)
                if wrong is not True:
                    self.refuses((errors.InvalidState, "index", wrong), group_of, value)
        self.assertGreater(min(told.values()), 10)
        self.assertEqual(set(told), {True, 0, 1, 2})

    def test_wrong_in_one_thing(self):
        for wrong, index in (
                ((), None), (GHZ + GHZ[:1], None), (GHZ[:2], 0), (list(GHZ), None), (None, None), (GHZ[0], 0),
                (((1, "XXX"), (1, "ZZI"), (1, "YYX")), 2), (((1, "XXX"), (1, "ZZI"), (-1, "YYX")), 2),
                (((1, "XXX"), (1, "ZII"), (1, "IZZ")), 1), (((1, "III"), (1, "ZZI"), (1, "IZZ")), 0),
                (((1, "XXX"), (1, "III"), (1, "IZZ")), 1), (((1, "XXX"), (-1, "XXX"), (1, "IZZ")), 1),
                (((1, "XXX"), (1, "ZZI"), (1, "ZZ")), 2), (((1, "XXX"), (0, "ZZI"), None), 1), (((1, "I"),), 0),
                (((-1, "I"),), 0), (((1, "XX"), (1, "ZZ"), (1, "YY")), 0)):
            self.assertIs(is_state(wrong), False)
            self.refuses((errors.InvalidState, "index", index), group_of, wrong)
        for right in (GHZ, ((1, "Z"),), ((-1, "XX"), (1, "ZZ"))):
            for value in bent(right):
                wrong = own_wrong_state(value)
                self.assertIs(is_state(value), wrong is True, value)
                if wrong is not True:
                    self.refuses((errors.InvalidState, "index", wrong), mean_of, value, (1, "X"))
        for value in any_values():
            for wrong in (value, (value,), GHZ[:2] + (value,), ((value, "X"),), ((1, value),)):
                self.assertIs(is_state(wrong), own_wrong_state(wrong) is True, wrong)

    def test_groups_and_means(self):
        maker = Maker(135)
        for many in (1, 1, 2, 2, 3, 3):
            state = drawn_state(maker, many)
            group = group_of(state)
            self.assertEqual(list(group), sorted(set(group)))
            self.assertEqual(len({letters for _, letters in group}), 2 ** many)
            self.assertLessEqual(set(state), set(group))
            own = []
            for letters in map("".join, product("IXYZ", repeat=many)):
                mean = trace_with(state, [matrix((1, letters))])
                self.assertEqual(mean_of(state, (1, letters)), mean)
                self.assertEqual(mean_of(state, (-1, letters)), -mean)
                if mean:
                    own.append((int(mean), letters))
            self.assertEqual(group, tuple(sorted(own)))


class Tables(Case):
    def test_families(self):
        maker = Maker(136)
        for _ in range(30):
            places = maker.random.randint(1, 3)
            state = drawn_state(maker, places)
            paulis, contexts = drawn_paulis(maker, places, maker.random.randint(1, 6), 4)
            scenario = pauli_scenario(paulis, contexts)
            self.assertEqual(scenario, ((2,) * len(paulis), contexts))
            self.assertIs(is_scenario(scenario), True)
            family = pauli_family(state, paulis, contexts)
            self.assertIs(is_family(scenario, family), True)
            self.assertIs(is_no_signalling(scenario, family), True)
            for context, row in zip(contexts, family):
                for section, number in zip(secs(scenario, context), row):
                    parts = [plus_one(matrix(paulis[x]), -1 if outcome else 1) for x, outcome in zip(context, section)]
                    self.assertEqual(frac(number), trace_with(state, parts) / 2 ** len(context))

    def test_rows(self):
        maker = Maker(137)
        words = {"solved": 0, "odd": 0}
        cases = [(GHZ, SIDES, TESTS)]
        for _ in range(30):
            places = maker.random.choice((2, 2, 3))
            cases.append((drawn_state(maker, places),
                          *drawn_paulis(maker, places, maker.random.randint(1, 6), 6)))
        for signs in product((1, -1), repeat=3):
            turned = tuple((sign, letters) for sign, (_, letters) in zip(signs, GHZ))
            cases.append((turned, SIDES, TESTS))
        for state, paulis, contexts in cases:
            rows = pauli_rows(state, paulis, contexts)
            self.assertEqual(rows, own_rows(paulis, contexts, lambda told: trace_with(state, [told])))
            scenario, family = pauli_scenario(paulis, contexts), pauli_family(state, paulis, contexts)
            for at, (context, row) in enumerate(zip(contexts, family)):
                mine = [(told[1], told[2]) for told in rows if told[0] == at]
                right = [section for section in secs(scenario, context)
                         if all(sum(own_told(context, section, lot)) % 2 == parity for lot, parity in mine)]
                chances = {section: number for section, number in zip(secs(scenario, context), row) if number[0]}
                self.assertEqual(chances, {section: (1, len(right)) for section in right})
            word, told = family_or_odd(state, paulis, contexts)
            words[word] += 1
            solutions = [world for world in worlds(scenario) if all(solves(world, row) for row in rows)]
            if word == "solved":
                self.assertIn(told, solutions)
                numbers = [Fraction(int(world in solutions), len(solutions)) for world in worlds(scenario)]
                self.assertEqual(pairs(own_family(scenario, numbers)), family)
                self.assertEqual(contextual_fraction(scenario, family), (0, 1))
            else:
                self.assertEqual((word, solutions), ("odd", []))
                self.assertLessEqual(set(told), set(rows))
                self.assertIs(is_argument(scenario, told), True)
                self.assertEqual(contextual_fraction(scenario, family), (1, 1))
        self.assertGreater(min(words.values()), 3)

    def test_more_than_six(self):
        """Rows are told of up to sixteen operators."""
        maker = Maker(138)
        for many in (9, 13, 16):
            for places in (2, 3):
                state = drawn_state(maker, places)
                paulis, contexts = drawn_paulis(maker, places, many, 12)
                rows = pauli_rows(state, paulis, contexts)
                self.assertEqual(rows, own_rows(paulis, contexts, lambda told: trace_with(state, [told])))
                self.judge(family_or_odd(state, paulis, contexts), rows, len(paulis))
                alone = own_rows(paulis, contexts, mean_alone)
                self.judge(valued_or_odd(paulis, contexts), alone, len(paulis))
        whole = tuple((1, letters) for letters in ("ZII", "IZI", "IIZ", "ZZI", "ZIZ", "IZZ", "ZZZ"))
        told = pauli_rows(((1, "ZII"), (1, "IZI"), (-1, "IIZ")), whole, (tuple(range(7)),))
        self.assertEqual(len(told), 127)

    def judge(self, answer, rows, many):
        """Outcomes that solve all rows, or an argument made of them."""
        word, told = answer
        if word == "solved":
            self.assertEqual(len(told), many)
            self.assertTrue(all(is_int(outcome) and outcome in (0, 1) for outcome in told))
            self.assertTrue(all(solves(told, row) for row in rows))
        else:
            self.assertEqual(word, "odd")
            self.assertTrue(told)
            self.assertEqual(list(told), sorted(set(told)))
            self.assertLessEqual(set(told), set(rows))
            self.assertEqual(sum(parity for _, _, parity in told) % 2, 1)
            self.assertTrue(all(sum(x in lot for _, lot, _ in told) % 2 == 0 for x in range(many)))
        return word

    def test_alone(self):
        """The square of nine, the star of ten: with signs turned, lines left out, letters exchanged."""
        maker = Maker(139)
        for paulis, lines in ((SQUARE, LINES), (STAR, POINTS)):
            self.assertEqual(self.judge(valued_or_odd(paulis, lines), own_rows(paulis, lines, mean_alone), len(paulis)),
                             "odd")
            for _ in range(10):
                turned = tuple((maker.random.choice((1, -1)), letters) for _, letters in paulis)
                rows = own_rows(turned, lines, mean_alone)
                self.assertEqual(self.judge(valued_or_odd(turned, lines), rows, len(paulis)), "odd")
            for letters in permutations("XYZ"):
                table = {"I": "I", **dict(zip("XYZ", letters))}
                other = tuple((sign, "".join(table[letter] for letter in told)) for sign, told in paulis)
                rows = own_rows(other, lines, mean_alone)
                self.assertEqual(self.judge(valued_or_odd(other, lines), rows, len(paulis)), "odd")
            for left in range(len(lines)):
                fewer = lines[:left] + lines[left + 1:]
                rows = own_rows(paulis, fewer, mean_alone)
                self.assertEqual(self.judge(valued_or_odd(paulis, fewer), rows, len(paulis)), "solved")
            for state in [drawn_state(maker, len(paulis[0][1])) for _ in range(5)]:
                rows = own_rows(paulis, lines, lambda told: trace_with(state, [told]))
                self.assertEqual(pauli_rows(state, paulis, lines), rows)
                self.assertEqual(self.judge(family_or_odd(state, paulis, lines), rows, len(paulis)), "odd")

    def test_one_operator(self):
        for letters in ("X", "ZI", "YYX"):
            self.assertEqual(valued_or_odd(((-1, letters),), ((0,),)), ("solved", (0,)))
        self.assertEqual(pauli_rows(((1, "Z"),), ((-1, "Z"),), ((0,),)), ((0, (0,), 1),))
        self.assertEqual(family_or_odd(((1, "Z"),), ((-1, "Z"),), ((0,),)), ("solved", (1,)))
        self.assertEqual(pauli_family(((1, "Z"),), ((-1, "Z"),), ((0,),)), (((0, 1), (1, 1)),))

    def test_alone_drawn(self):
        maker = Maker(140)
        words = {}
        for _ in range(60):
            paulis, contexts = drawn_paulis(maker, 2, maker.random.randint(9, 15), 40, 1)
            word = self.judge(valued_or_odd(paulis, contexts), own_rows(paulis, contexts, mean_alone), len(paulis))
            words[word] = words.get(word, 0) + 1
        self.assertGreater(min(words.values()), 5)
        self.assertEqual(set(words), {"solved", "odd"})


NO_PAULI = given(errors.InvalidPauli, [
    (0, "XX"), (1, ""), (1, "XXXX"), [1, "XX"], None, "XX", (True, "XX"), (1, "xx"), (1, "XX", 1), (), (1, ("X", "X"))])
OTHER_LETTERS = NO_PAULI + given(errors.InvalidPauli, [(1, "X"), (1, "XXX")])
NO_STATE = indexed(errors.InvalidState, [
    ((), None), (None, None), (list(GHZ), None), (GHZ[:2], 0), (GHZ + GHZ[:1], None), (GHZ[:2] + ((1, "YYX"),), 2),
    (GHZ[:1] + ((1, "ZII"), 5), 1), (((1, "III"),) + GHZ[1:], 0), (0, None)])
MANY = tuple((1, "".join(told)) for told in product("IXYZ", repeat=3))[1:]
NO_PAULIS = indexed(errors.InvalidPaulis, [
    ((), None), (MANY[:17], None), (None, None), (list(SIDES), None), (SIDES[:5] + ((1, "III"),), 5),
    (SIDES[:5] + ((-1, "XII"),), 5), (SIDES[:5] + ((1, "XI"),), 5), (SIDES[:4] + ((0, "XII"), 7), 4),
    (((1, "XIII"),) + SIDES[1:], 0), (((-1, "III"),) + SIDES[1:], 0), (SIDES[:2] + (None,) + SIDES[3:], 2),
    ("XX", None),
    ((5,) * 16, 0), ((5,) * 17, None)])
NO_CONTEXTS = indexed(errors.InvalidContexts, [
    ((), None), (None, None), (list(TESTS), None), (0, None), (TESTS[:3] + ((2, 3, 6),), 3), (((),) + TESTS, 0),
    (TESTS[:2] + TESTS[1:], 2), (TESTS[::-1], 1), (TESTS[:1] + ((0, 3),) + TESTS[1:], 1), (((2, 1, 0),) + TESTS[1:], 0),
    (([0, 1, 2],) + TESTS[1:], 0), (((0, 1, True),) + TESTS[1:], 0), (((0, 0, 1),) + TESTS[1:], 0), (TESTS[:1], None),
    (TESTS[:2], None), (((0, 1),) + TESTS, None), (TESTS + ((3,),), None), (TESTS[:1] + (None, (), 7), 1),
    (TESTS + ((0, 1),), 4), (((-1, 0),) + TESTS, 0), ("abc", None), (((0, 1, 2), "abc"), 1)])


class Calls(Case):
    def test_pairs(self):
        for function in (pauli_product, do_commute):
            self.holds(Spec(function, [("pauli", (1, "XZ")), ("other", (-1, "ZZ"))],
                            {"pauli": NO_PAULI, "other": OTHER_LETTERS}))
            for value in any_values():
                self.refuses((errors.InvalidPauli, "given", value), function, value, (1, "X"))
                self.refuses((errors.InvalidPauli, "given", value), function, (1, "X"), value)

    def test_whatever_it_is(self):
        for function in (is_pauli, is_state):
            for value in ((1, "X"), GHZ, [1, "X"], None, {}, [[]]):
                self.holds(Spec(function, [("value", value)], {}))

    def test_states(self):
        self.holds(Spec(group_of, [("state", GHZ)], {"state": NO_STATE}))
        self.holds(Spec(mean_of, [("state", GHZ), ("pauli", (1, "YYX"))], {"state": NO_STATE, "pauli": NO_PAULI},
                        [({"pauli": (1, "XX")}, errors.Unfit, "given", (1, "XX")),
                         ({"pauli": (-1, "I")}, errors.Unfit, "given", (-1, "I"))]))

    def test_with_paulis(self):
        wrong = {"state": NO_STATE, "paulis": NO_PAULIS, "contexts": NO_CONTEXTS}
        right = [("state", GHZ), ("paulis", SIDES), ("contexts", TESTS)]
        two = ((1, "XX"), (1, "ZZ"))
        seven = {"paulis": MANY[:7], "contexts": tuple((x,) for x in range(7))}
        unfit = ({"state": two}, errors.Unfit, "given", two)
        for function in (pauli_rows, family_or_odd):
            self.holds(Spec(function, right, wrong, [unfit]))
        self.holds(Spec(pauli_family, right, wrong, [unfit]))
        self.holds(Spec(pauli_family, right, {"state": NO_STATE}, [(seven, errors.TooMany, "given", 7)]))
        self.holds(Spec(pauli_family, right, {}, [({"state": two, **seven}, errors.Unfit, "given", two)]))
        del wrong["state"]
        self.holds(Spec(valued_or_odd, right[1:], wrong))
        self.holds(Spec(pauli_scenario, right[1:], wrong))
        sixteen = {"paulis": MANY[:16], "contexts": tuple((x,) for x in range(16))}
        self.holds(Spec(pauli_scenario, right[1:], {}, [(seven, errors.TooMany, "given", 7),
                                                        (sixteen, errors.TooMany, "given", 16)]))

    def test_contexts(self):
        """A context that does not commute is told ahead of one that is within another, and of a missing one."""
        paulis = ((1, "X"), (1, "Z"), (1, "Y"))
        for contexts, index in ((((0, 1),), 0), (((0,), (1,)), None), (((0,), (0, 2)), 1), (((0,), (1,), (2,)), True)):
            if index is True:
                self.assertEqual(valued_or_odd(paulis, contexts), ("solved", (0, 0, 0)))
            else:
                self.refuses((errors.InvalidContexts, "index", index), valued_or_odd, paulis, contexts)

    def test_any_value(self):
        for value in any_values():
            self.refuses((errors.InvalidState, "index", own_wrong_state(value)), group_of, value)
            for wrong in ((value,), SIDES[:3] + (value,)):
                at = len(wrong) - 1
                self.refuses((errors.InvalidPaulis, "index", at), valued_or_odd, wrong, TESTS)
            if repr(value) not in ("(0, 1)",):
                self.refuses((errors.InvalidContexts, "index", 0), valued_or_odd, SIDES, (value,) + TESTS[1:])


if __name__ == "__main__":
    unittest.main()
