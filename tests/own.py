"""Sums that the tests make by themselves, and values for them to be made of. Nothing here calls the package."""

from fractions import Fraction
from itertools import combinations, permutations, product
from random import Random

NIL, ONE, HALF, QUARTER, THIRD = (0, 1), (1, 1), (1, 2), (1, 4), (1, 3)
BELL = ((2, 2, 2, 2), ((0, 2), (0, 3), (1, 2), (1, 3)))
TRIANGLE = ((2, 2, 2), ((0, 1), (0, 2), (1, 2)))
PATH = ((2, 2, 2), ((0, 1), (1, 2)))
COIN = ((2,), ((0,),))
LIKE, UNLIKE = (HALF, NIL, NIL, HALF), (NIL, HALF, HALF, NIL)
BOX, FLAT = (LIKE, LIKE, LIKE, UNLIKE), ((QUARTER,) * 4,) * 4
CHSH = ((ONE, (-1, 1), (-1, 1), ONE),) * 3 + (((-1, 1), ONE, ONE, (-1, 1)),)
WON = ((ONE, NIL, NIL, ONE),) * 3 + ((NIL, ONE, ONE, NIL),)
GAME = ((QUARTER,) * 4, ((1, 0, 0, 1),) * 3 + ((0, 1, 1, 0),))


def ring(many, size=2):
    """A scenario whose contexts go round in a ring."""
    pairs = sorted(tuple(sorted((at, (at + 1) % many))) for at in range(many))
    return ((size,) * many, tuple(pairs))


def all_of(sizes, many):
    """A scenario in which so many observables can be measured together, whichever."""
    return (tuple(sizes), tuple(combinations(range(len(sizes)), many)))


SMALL = [
    COIN, ((3,), ((0,),)), ((2, 3), ((0,), (1,))), ((2, 2), ((0, 1),)), PATH, TRIANGLE, BELL,
    ((3, 2, 2), ((0, 1), (0, 2), (1, 2))), ((2, 3, 2), ((0, 1), (1, 2))), ((2, 2, 2, 2), ((0, 1), (2, 3))),
    all_of((2, 2, 2, 2), 3), ((2, 2, 2, 2), ((0, 1, 2), (0, 3), (1, 3))), ring(5), ((3, 2, 3, 2), BELL[1]),
    ((4, 2, 2), ((0,), (1, 2))),
]
LARGE = [
    ring(6), all_of((2,) * 6, 2), all_of((2,) * 6, 3), all_of((2,) * 6, 4), all_of((2,) * 6, 5), all_of((4, 4, 4), 2),
    all_of((4, 4, 2, 2), 2), ((4, 2, 4, 2), BELL[1]), ((2,) * 6, ((0, 1, 2, 3, 4, 5),)), ((4, 4, 4), ((0, 1, 2),)),
    ((2,) * 6, ((0, 1, 2), (0, 4, 5), (1, 3, 5), (2, 3, 4))),
]


def pair(number):
    number = Fraction(number)
    return (number.numerator, number.denominator)


def frac(number):
    return Fraction(number[0], number[1])


def fracs(rows):
    return [[frac(number) for number in row] for row in rows]


def pairs(rows):
    return tuple(tuple(pair(number) for number in row) for row in rows)


def secs(scenario, lot):
    return list(product(*(range(scenario[0][x]) for x in lot)))


def everything(scenario):
    return tuple(range(len(scenario[0])))


def worlds(scenario):
    return secs(scenario, everything(scenario))


def part(world, lot):
    return tuple(world[x] for x in lot)


def own_marginal(scenario, row, context, lot):
    sums = {section: Fraction(0) for section in secs(scenario, lot)}
    for section, number in zip(secs(scenario, context), row):
        told = dict(zip(context, section))
        sums[tuple(told[x] for x in lot)] += frac(number)
    return list(sums.values())


def own_family(scenario, numbers):
    """The marginals of fractions, one for each global assignment."""
    rows = []
    for context in scenario[1]:
        sums = {section: Fraction(0) for section in secs(scenario, context)}
        for world, number in zip(worlds(scenario), numbers):
            sums[part(world, context)] += number
        rows.append(list(sums.values()))
    return rows


def own_agreed(scenario, family):
    for (one, row), (two, other) in combinations(list(zip(scenario[1], family)), 2):
        lot = tuple(x for x in one if x in two)
        if own_marginal(scenario, row, one, lot) != own_marginal(scenario, other, two, lot):
            return False
    return True


def own_value(weights, family):
    return sum(frac(a) * frac(b) for row, line in zip(weights, family) for a, b in zip(row, line))


def own_sums(scenario, weights):
    """The sum of weights of each global assignment, in order."""
    tables = [dict(zip(secs(scenario, context), row)) for context, row in zip(scenario[1], fracs(weights))]
    return [sum((table[part(world, context)] for context, table in zip(scenario[1], tables)), Fraction(0))
            for world in worlds(scenario)]


def point(scenario, world):
    """The deterministic family of a global assignment."""
    return tuple(tuple(ONE if section == part(world, context) else NIL for section in secs(scenario, context))
                 for context in scenario[1])


def own_lots(scenario):
    lots = {lot for context in scenario[1] for many in range(1, len(context) + 1)
            for lot in combinations(context, many)}
    return sorted(lots)


def own_inner(scenario):
    return [(lot, section) for lot in own_lots(scenario)
            for section in product(*(range(scenario[0][x] - 1) for x in lot))]


def own_rank(rows):
    """The rank of rows of numbers."""
    rows = [[Fraction(number) for number in row] for row in rows]
    rank = 0
    for column in range(len(rows[0]) if rows else 0):
        lead = next((row for row in rows if row[column] != 0), None)
        if lead is None:
            continue
        rows.remove(lead)
        rows = [[a - row[column] / lead[column] * b for a, b in zip(row, lead)] if row[column] else row
                for row in rows]
        rank += 1
    return rank


def flat_of(scenario, points):
    """The dimension of the flat of the deterministic families of global assignments; -1 for none."""
    return own_rank([[1] + [number for row in fracs(point(scenario, world)) for number in row]
                     for world in points]) - 1


def own_relabellings(scenario):
    found = []
    for order in permutations(range(len(scenario[0]))):
        if any(scenario[0][order[x]] != scenario[0][x] for x in range(len(order))):
            continue
        if {frozenset(order[x] for x in context) for context in scenario[1]} != set(map(frozenset, scenario[1])):
            continue
        for turns in product(*(permutations(range(size)) for size in scenario[0])):
            found.append((order, turns))
    return sorted(found)


def own_led(scenario, relabelling, rows):
    """Rows for contexts by the new names."""
    order, turns = relabelling
    tables = {}
    for context, row in zip(scenario[1], rows):
        for section, number in zip(secs(scenario, context), row):
            key = sorted((order[x], turns[x][outcome]) for x, outcome in zip(context, section))
            tables[tuple(key)] = number
    return tuple(tuple(tables[tuple(zip(context, section))] for section in secs(scenario, context))
                 for context in scenario[1])


class Maker:
    """Values made by a row of numbers that is the same each time."""

    def __init__(self, seed):
        self.random = Random(seed)

    def row(self, many, top=9, zeros=0):
        """Fractions from 0 on of sum 1."""
        numbers = [0 if self.random.randrange(100) < zeros else self.random.randint(0, top) for _ in range(many)]
        if sum(numbers) == 0:
            numbers[self.random.randrange(many)] = 1
        return tuple(pair(Fraction(number, sum(numbers))) for number in numbers)

    def distribution(self, scenario, top=9, zeros=0):
        return self.row(len(worlds(scenario)), top, zeros)

    def family(self, scenario, top=9, zeros=0):
        """A family of whatever kind."""
        return tuple(self.row(len(secs(scenario, context)), top, zeros) for context in scenario[1])

    def joint_family(self, scenario, top=9, zeros=0):
        return pairs(own_family(scenario, [frac(number) for number in self.distribution(scenario, top, zeros)]))

    def number(self, top=9, below=6):
        return pair(Fraction(self.random.randint(-top, top), self.random.randint(1, below)))

    def weights(self, scenario, top=9, below=6):
        return tuple(tuple(self.number(top, below) for _ in secs(scenario, context)) for context in scenario[1])

    def game(self, scenario):
        wins = tuple(tuple(self.random.randint(0, 1) for _ in secs(scenario, context)) for context in scenario[1])
        return (self.row(len(scenario[1])), wins)

    def scenario(self, many):
        """A scenario of so many observables, of at most 64 global assignments."""
        while True:
            sizes = tuple(self.random.choice((2, 2, 2, 3)) for _ in range(many))
            if len(worlds((sizes, ()))) <= 64:
                break
        lots = [tuple(sorted(self.random.sample(range(many), self.random.randint(1, many)))) for _ in range(many + 1)]
        lots += [(x,) for x in range(many)]
        kept = {lot for lot in lots if not any(set(lot) < set(other) for other in lots)}
        return (sizes, tuple(sorted(kept)))


def mix(one, two, share):
    """The share of the one and the rest of the other."""
    return pairs([[share * a + (1 - share) * b for a, b in zip(row, line)]
                  for row, line in zip(fracs(one), fracs(two))])


def deep(wrap, inside):
    """A value wrapped so that it is nested 20 deep."""
    for _ in range(19):
        inside = wrap(inside)
    return inside


class Plain:
    """Some object of a class of the caller's own."""


def any_values():
    """Values of any kind."""
    return [
        None, True, False, 0, 1, -1, 2, 10 ** 60, -10 ** 399, "", "cycle", "simplex", b"", b"cycle", [], {}, set(),
        (), ((),), ((), ()), [()], ([],), ([], []), (None,), (None, None), (True, False), (0, 1), (1, 1), (1, 0),
        (0, 0), (1, -1), (2, 2), (True, 1), (1, True), ("0", "1"), ("ab", "cd"), "ab", "abcd", b"ab", {0: 1, 1: 2},
        {(): ()}, {1, 2}, frozenset((1, 2)), range(2), range(4), Plain(), Plain, len, deep, object(), NotImplemented,
        Ellipsis, ValueError("x"), iter(()), deep(lambda x: (x,), ()), deep(lambda x: (1, x), 1),
        deep(lambda x: [x], []), deep(lambda x: {0: x}, {}), deep(lambda x: (0, [x], {1: ()}), "x"),
        (deep(lambda x: (x,), 0), deep(lambda x: (x,), 0)), ((2, 2), [(0, 1)]), ([2, 2], ((0, 1),)),
        ((deep(lambda x: (x,), 2), 2), ((0, 1),)), ((2, 2), ((0, deep(lambda x: [x], 1)),)),
        (("cycle",), (0, 1, 2, 3)), ("cycle", [0, 2, 1, 3]), ("simplex", (0, 1, (2,))), (((),), ((),)),
        ((((),),),), (((0, 1), (1, 1)),), (((0, 1), (1, 1)),) * 4, ((0, 1), (1, 1)), (1,) * 500, ((1, 2),) * 500,
    ]


def one_thing_wrong(row):
    """Rows of chances that are like a right one, of two or more, but for one thing."""
    first, rest = row[0], row[1:]
    top, bottom = first
    more = pair(frac(first) + Fraction(1, 7))
    return [
        list(row), rest, row + (NIL,), ((2 * top, 2 * bottom),) + rest, ([top, bottom],) + rest,
        ((top, -bottom),) + rest, ((-top, -bottom),) + rest, ((top, 0),) + rest, ((top,),) + rest,
        ((top, bottom, 1),) + rest, (top,) + rest, (None,) + rest, (str(top),) + rest, (((top,), bottom),) + rest,
        (more,) + rest, (pair(frac(row[0]) + frac(row[1]) + 1), (-1, 1)) + row[2:], (True,) + rest,
        (first, (True, 2)) + row[2:], ((0, True),) + rest, ((False, 1),) + rest, row + ((),), (row,), "", None,
        {at: number for at, number in enumerate(row)}, ((0, 2),) + rest, ((top, bottom), rest),
    ]


def bent(value):
    """Values that are like this one but for one thing, at any depth."""
    if isinstance(value, tuple):
        found = [list(value), (value,), value + (0,), value + ((),), {at: part for at, part in enumerate(value)}, None]
        for at, inside in enumerate(value):
            before, behind = value[:at], value[at + 1:]
            found += [before + behind, before + (inside, inside) + behind]
            if behind:
                found.append(before + (behind[0], inside) + behind[1:])
            found += [before + (other,) + behind for other in bent(inside)]
        return found
    if isinstance(value, bool) or value is None:
        return [0, 1, "", ()]
    if isinstance(value, int):
        return [value + 1, value - 1, -value, value + 10, str(value), (value,), [value], None, bool(value), 10 ** 60]
    return [value + "x", value[1:], value.upper(), value.encode(), (value,), [value], None, 0, "", value + " "]


def is_int(value):
    return type(value) is int


def own_is_fraction(value):
    return (type(value) is tuple and len(value) == 2 and is_int(value[0]) and is_int(value[1]) and value[1] > 0
            and pair(Fraction(value[0], value[1])) == value)


def own_is_row(value, many):
    """A row of chances."""
    return (type(value) is tuple and len(value) == many and all(own_is_fraction(number) for number in value)
            and all(number[0] >= 0 for number in value) and sum(frac(number) for number in value) == 1)


def own_is_section(scenario, lot, value):
    return (type(value) is tuple and len(value) == len(lot) and all(is_int(outcome) for outcome in value)
            and all(0 <= outcome < scenario[0][x] for outcome, x in zip(value, lot)))


def own_is_support(scenario, value):
    if type(value) is not tuple or len(value) != len(scenario[1]):
        return False
    for context, row in zip(scenario[1], value):
        if type(row) is not tuple or not row or not all(own_is_section(scenario, context, told) for told in row):
            return False
        if list(row) != sorted(set(row)):
            return False
    return True


def own_support(scenario, points):
    """The sections that global assignments tell."""
    return tuple(tuple(sorted({part(world, context) for world in points})) for context in scenario[1])


def own_possible(scenario, support):
    return [world for world in worlds(scenario)
            if all(part(world, context) in row for context, row in zip(scenario[1], support))]


def own_told(context, section, lot):
    told = dict(zip(context, section))
    return tuple(told[x] for x in lot)


def own_consistent(scenario, support):
    for (one, row), (two, other) in combinations(list(zip(scenario[1], support)), 2):
        lot = tuple(x for x in one if x in two)
        if {own_told(one, told, lot) for told in row} != {own_told(two, told, lot) for told in other}:
            return False
    return True
