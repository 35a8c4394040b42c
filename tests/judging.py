"""The tests' own judge of plans, claims and papers, word by word as [41] and [44] tell them.

Forms of labs' things and the reader of texts are those of the other tests.
"""

from fractions import Fraction
from functools import lru_cache
from itertools import combinations, product
from math import factorial, prod

from tests.own import (
    everything, flat_of, frac, fracs, is_int, own_agreed, own_family, own_inner, own_is_fraction, own_is_row,
    own_is_section, own_is_support, own_led, own_marginal, own_possible, own_relabellings, own_sums, own_value, part,
    secs, worlds)
from tests.reading import own_read
from tests.test_acyclic import own_obstructions, steps_from
from tests.test_games import lines, own_bound_kept
from tests.test_inequalities import own_facet
from tests.test_labs import own_is_game, own_is_lab, own_joint
from tests.test_logs import own_is_entry, own_tables
from tests.test_markings import own_bases, own_pairs, own_wrong
from tests.test_parity import own_is_argument, own_rows, solves
from tests.test_paulis import (
    matrix, mean_alone, own_commute, own_is_pauli, own_wrong_state, plus_one, trace_with)
from tests.test_paulis import own_rows as pauli_rows_of
from tests.test_possible import common_rows, own_gains
from tests.test_wirings import own_is_wiring, own_wired


def own_tail(number, wins, share):
    """Round by round: how likely each number of wins is."""
    chances = [Fraction(1)]
    for _ in range(number):
        chances = [(share * one if one else 0) + ((1 - share) * two if two else 0)
                   for one, two in zip([0] + chances, chances + [0])]
    return sum(chances[max(wins, 0):], Fraction(0))


def own_rounds(scenario, value):
    """Of how many rounds it is a plan, None for none, of however many pairs."""
    if type(value) is not tuple:
        return None
    if value == ():
        return 0
    if len(value) != 2 or not own_is_section(scenario, everything(scenario), value[0]):
        return None
    if type(value[1]) is not tuple or len(value[1]) != len(scenario[1]):
        return None
    told = [own_rounds(scenario, inside) for inside in value[1]]
    return told[0] + 1 if None not in told and len(set(told)) == 1 else None


def own_pairs_in(scenario, number):
    return sum(len(scenario[1]) ** at for at in range(number))


def own_is_plan(scenario, number, value):
    return own_pairs_in(scenario, number) <= 400 and own_rounds(scenario, value) == number


def own_plan_chance(scenario, game, plan, wins):
    """Over all rows of contexts."""
    number = own_rounds(scenario, plan)
    sections = [secs(scenario, context) for context in scenario[1]]
    whole = Fraction(0)
    for row in product(range(len(scenario[1])), repeat=number):
        left, won = plan, 0
        for at in row:
            won += game[1][at][sections[at].index(part(left[0], scenario[1][at]))]
            left = left[1][at]
        if won >= wins:
            whole += prod((frac(game[0][at]) for at in row), start=Fraction(1))
    return whole


def own_is_scenario(value):
    if type(value) is not tuple or len(value) != 2:
        return False
    sizes, contexts = value
    if type(sizes) is not tuple or not 1 <= len(sizes) <= 6 or not all(is_int(x) and 2 <= x <= 4 for x in sizes):
        return False
    if prod(sizes) > 64 or type(contexts) is not tuple or not contexts:
        return False
    if not all(own_is_lot(context, len(sizes)) for context in contexts):
        return False
    if list(contexts) != sorted(set(contexts)) or {x for lot in contexts for x in lot} != set(range(len(sizes))):
        return False
    return not any(set(one) < set(two) for one in contexts for two in contexts)


def own_is_lot(value, many):
    """One or more."""
    return (type(value) is tuple and len(value) > 0 and all(is_int(x) and 0 <= x < many for x in value)
            and list(value) == sorted(set(value)))


def is_rows(scenario, value, is_right):
    return own_is_scenario(scenario) and type(value) is tuple and len(value) == len(scenario[1]) and all(
        is_right(row, len(secs(scenario, context))) for row, context in zip(value, scenario[1]))


def is_family(scenario, value):
    return is_rows(scenario, value, own_is_row)


def are_numbers(value, many):
    return type(value) is tuple and len(value) == many and all(own_is_fraction(number) for number in value)


def is_weights(scenario, value):
    return is_rows(scenario, value, are_numbers)


def is_agreed_family(scenario, value):
    return is_family(scenario, value) and own_agreed(scenario, value)


def is_world(scenario, value):
    return own_is_section(scenario, everything(scenario), value)


def is_game(scenario, value):
    return own_is_scenario(scenario) and own_is_game(scenario, value)


def is_support(scenario, value):
    return own_is_scenario(scenario) and own_is_support(scenario, value)


def is_inequality(scenario, value):
    return type(value) is tuple and len(value) == 2 and is_weights(scenario, value[0]) and own_is_fraction(value[1])


def is_count(value):
    return is_int(value) and 0 <= value <= 100


def is_nothing(value):
    return type(value) is tuple and value == ()


def at_world(scenario, weights, world):
    return own_sums(scenario, weights)[worlds(scenario).index(world)]


def noncontextual(scenario, family, paper):
    return is_family(scenario, family) and own_is_row(paper, len(worlds(scenario))) and (
        own_family(scenario, [frac(number) for number in paper]) == fracs(family))


def contextual(scenario, family, paper):
    return is_family(scenario, family) and is_weights(scenario, paper) and (
        own_value(paper, family) > max(own_sums(scenario, paper)))


def fraction(scenario, family, number, paper):
    if not is_family(scenario, family) or not own_is_fraction(number) or type(paper) is not tuple or len(paper) != 2:
        return False
    row, covering = paper
    if not are_numbers(row, len(worlds(scenario))) or min(top for top, _ in row) < 0:
        return False
    if not is_weights(scenario, covering) or min(top for line in covering for top, _ in line) < 0:
        return False
    sums = own_family(scenario, [frac(told) for told in row])
    if any(a > b for line, told in zip(sums, fracs(family)) for a, b in zip(line, told)):
        return False
    wanted = 1 - frac(number)
    return sum(fracs([row])[0]) == wanted and min(own_sums(scenario, covering)) >= 1 and (
        own_value(covering, family) == wanted)


def own_is_reduction(scenario, value):
    if type(value) is not tuple or len(value) != len(scenario[1]) - 1:
        return False
    left = list(range(len(scenario[1])))
    for step in value:
        if repr(step) not in [repr(told) for told in steps_from(scenario[1], left)]:
            return False
        left.remove(step[0])
    return True


def acyclic(scenario, paper):
    return own_is_scenario(scenario) and own_is_reduction(scenario, paper)


@lru_cache(maxsize=None)
def obstructions_told(scenario):
    return [repr(told) for told in own_obstructions(scenario)]


def cyclic(scenario, paper):
    return own_is_scenario(scenario) and repr(paper) in obstructions_told(scenario)


def joined(scenario, family, reduction, distribution, paper):
    if not is_agreed_family(scenario, family) or not own_is_reduction(scenario, reduction) or not is_nothing(paper):
        return False
    if not own_is_row(distribution, len(worlds(scenario))):
        return False
    tables = [dict(zip(secs(scenario, context), line)) for context, line in zip(scenario[1], fracs(family))]
    for world, number in zip(worlds(scenario), distribution):
        told = prod((table[part(world, context)] for context, table in zip(scenario[1], tables)), start=Fraction(1))
        for one, into in reduction:
            lot = tuple(x for x in scenario[1][one] if x in scenario[1][into])
            sums = own_marginal(scenario, family[one], scenario[1][one], lot)
            below = dict(zip(secs(scenario, lot), sums))[part(world, lot)]
            told = told / below if below else Fraction(0)
        if told != frac(number):
            return False
    return True


def wired(scenario, other, wiring, family, second, paper):
    return is_agreed_family(scenario, family) and is_family(other, second) and is_nothing(paper) and (
        own_is_wiring(scenario, other, wiring) and own_wired(scenario, other, wiring, family) == second)


def wins(scenario, game, number, paper):
    return is_game(scenario, game) and own_is_fraction(number) and is_world(scenario, paper) and (
        at_world(scenario, lines(game), paper) >= frac(number))


def wins_less(scenario, game, number, paper):
    return is_game(scenario, game) and own_is_fraction(number) and is_nothing(paper) and (
        max(own_sums(scenario, lines(game))) < frac(number))


def reaches(scenario, game, number, paper):
    return is_game(scenario, game) and own_is_fraction(number) and is_agreed_family(scenario, paper) and (
        own_value(lines(game), paper) >= frac(number))


def is_handed(scenario, value):
    rows = common_rows(scenario)[2]
    return type(value) is tuple and len(value) == len(rows) and all(
        are_numbers(row, len(told)) for row, told in zip(value, rows))


def reaches_less(scenario, game, number, paper):
    if not is_game(scenario, game) or not own_is_fraction(number) or type(paper) is not tuple or len(paper) != 2:
        return False
    if not are_numbers(paper[0], len(scenario[1])) or not is_handed(scenario, paper[1]):
        return False
    return own_bound_kept(scenario, game, paper) and sum(fracs([paper[0]])[0]) < frac(number)


def is_kept(scenario, inequality):
    return is_inequality(scenario, inequality) and max(own_sums(scenario, inequality[0])) <= frac(inequality[1])


def valid(scenario, inequality, paper):
    return is_kept(scenario, inequality) and is_nothing(paper)


def broken(scenario, inequality, paper):
    return is_inequality(scenario, inequality) and is_world(scenario, paper) and (
        at_world(scenario, inequality[0], paper) > frac(inequality[1]))


@lru_cache(maxsize=None)
def facet_told(scenario, inequality):
    return own_facet(scenario, inequality)


def facet(scenario, inequality, paper):
    if not is_inequality(scenario, inequality) or type(paper) is not tuple:
        return False
    if not all(is_world(scenario, world) for world in paper) or list(paper) != sorted(set(paper)):
        return False
    if len(paper) != len(own_inner(scenario)) or not facet_told(scenario, inequality):
        return False
    sums = dict(zip(worlds(scenario), own_sums(scenario, inequality[0])))
    return all(sums[world] == frac(inequality[1]) for world in paper) and (
        flat_of(scenario, paper) >= len(paper) - 1)


def no_facet(scenario, inequality, paper):
    return is_kept(scenario, inequality) and is_nothing(paper) and not facet_told(scenario, inequality)


def own_margins(scenario, inequality):
    """What the bound has above each deterministic family's value, in all ways to write it but for a number."""
    sums = [frac(inequality[1]) - number for number in own_sums(scenario, inequality[0])]
    whole = sum(map(abs, sums)) or 1
    return [number / whole for number in sums]


def own_is_relabelling(scenario, value):
    if type(value) is not tuple or len(value) != 2 or not all(type(told) is tuple for told in value):
        return False
    order, turns = value
    many = len(scenario[0])
    if len(order) != many or len(turns) != many or not all(is_int(x) for x in order):
        return False
    if sorted(order) != list(range(many)) or any(scenario[0][order[x]] != scenario[0][x] for x in range(many)):
        return False
    if {frozenset(order[x] for x in context) for context in scenario[1]} != set(map(frozenset, scenario[1])):
        return False
    return all(type(turn) is tuple and all(is_int(o) for o in turn) and sorted(turn) == list(range(size))
               for turn, size in zip(turns, scenario[0]))


def equivalent(scenario, one, other, paper):
    if not is_inequality(scenario, one) or not is_inequality(scenario, other):
        return False
    if not own_is_relabelling(scenario, paper):
        return False
    led = (own_led(scenario, paper, one[0]), one[1])
    return own_margins(scenario, led) == own_margins(scenario, other)


@lru_cache(maxsize=None)
def relabellings_told(scenario):
    least = prod(factorial(size) for size in scenario[0])
    return own_relabellings(scenario) if least <= 5000 else [None] * 5001


@lru_cache(maxsize=None)
def is_some_relabelling(scenario, one, other):
    wanted = own_margins(scenario, other)
    return any(own_margins(scenario, (own_led(scenario, told, one[0]), one[1])) == wanted
               for told in relabellings_told(scenario))


def not_equivalent(scenario, one, other, paper):
    if not is_inequality(scenario, one) or not is_inequality(scenario, other) or not is_nothing(paper):
        return False
    return len(relabellings_told(scenario)) <= 5000 and not is_some_relabelling(scenario, one, other)


def strongly_contextual(scenario, support, paper):
    return is_support(scenario, support) and is_nothing(paper) and not own_possible(scenario, support)


def possible(scenario, support, paper):
    return is_support(scenario, support) and is_world(scenario, paper) and paper in own_possible(scenario, support)


def is_possible_section(scenario, support, context, section):
    return is_support(scenario, support) and is_int(context) and 0 <= context < len(scenario[1]) and (
        own_is_section(scenario, scenario[1][context], section) and section in support[context])


def extends(scenario, support, context, section, paper):
    return is_possible_section(scenario, support, context, section) and is_world(scenario, paper) and (
        paper in own_possible(scenario, support) and part(paper, scenario[1][context]) == section)


def does_not_extend(scenario, support, context, section, paper):
    return is_possible_section(scenario, support, context, section) and is_nothing(paper) and not any(
        part(world, scenario[1][context]) == section for world in own_possible(scenario, support))


def family_with(scenario, support, paper):
    return is_support(scenario, support) and is_agreed_family(scenario, paper) and support == tuple(
        tuple(told for told, number in zip(secs(scenario, context), row) if number[0])
        for context, row in zip(scenario[1], paper))


def no_family_with(scenario, support, paper):
    if not is_support(scenario, support) or not is_handed(scenario, paper):
        return False
    gains = own_gains(scenario, support, paper)
    return min(gains) >= 0 and max(gains) > 0


def is_paired(scenario, support):
    return is_support(scenario, support) and set(scenario[0]) == {2}


def parities_solved(scenario, support, paper):
    return is_paired(scenario, support) and is_world(scenario, paper) and (
        all(solves(paper, row) for row in own_rows(scenario, support)))


def all_versus_nothing(scenario, support, paper):
    return is_paired(scenario, support) and own_is_argument(scenario, paper) and (
        set(paper) <= set(own_rows(scenario, support)))


def marking(vectors, paper):
    if own_wrong(vectors) is not True or type(paper) is not tuple or len(paper) != len(vectors):
        return False
    if not all(is_int(mark) and mark in (0, 1) for mark in paper):
        return False
    return not any(paper[i] and paper[j] for i, j in own_pairs(vectors)) and (
        all(sum(paper[at] for at in basis) == 1 for basis in own_bases(vectors)))


@lru_cache(maxsize=None)
def pairs_and_bases(vectors):
    return {repr(told) for told in own_pairs(vectors)}, {repr(told) for told in own_bases(vectors)}


def is_walk(vectors, tree, marks):
    if type(tree) is not tuple or len(tree) not in (2, 3):
        return False
    if type(tree[0]) is str and tree[0] == "pair" and len(tree) == 3:
        return repr(tree[1:]) in pairs_and_bases(vectors)[0] and marks.get(tree[1]) == marks.get(tree[2]) == 1
    if type(tree[0]) is str and tree[0] == "basis" and len(tree) == 2:
        return repr(tree[1]) in pairs_and_bases(vectors)[1] and all(marks.get(at) == 0 for at in tree[1])
    if not is_int(tree[0]) or not 0 <= tree[0] < len(vectors) or tree[0] in marks or len(tree) != 3:
        return False
    return is_walk(vectors, tree[1], {**marks, tree[0]: 1}) and is_walk(vectors, tree[2], {**marks, tree[0]: 0})


def no_marking(vectors, paper):
    if own_wrong(vectors) is not True:
        return False
    if is_walk(vectors, paper, {}):
        return True
    bases = pairs_and_bases(vectors)[1]
    if type(paper) is not tuple or not all(type(basis) is tuple and repr(basis) in bases for basis in paper):
        return False
    return list(paper) == sorted(set(paper)) and len(paper) % 2 == 1 and (
        all(sum(at in basis for basis in paper) % 2 == 0 for at in range(len(vectors))))


def are_paulis(paulis, contexts):
    if type(paulis) is not tuple or not 1 <= len(paulis) <= 16 or not all(own_is_pauli(told) for told in paulis):
        return False
    letters = [told for _, told in paulis]
    if len({len(told) for told in letters}) > 1 or len(set(letters)) < len(letters) or {"I"} in map(set, letters):
        return False
    if type(contexts) is not tuple or not contexts or not all(own_is_lot(lot, len(paulis)) for lot in contexts):
        return False
    if list(contexts) != sorted(set(contexts)) or {x for lot in contexts for x in lot} != set(range(len(paulis))):
        return False
    if any(set(one) < set(two) for one in contexts for two in contexts):
        return False
    return all(own_commute(paulis[x], paulis[y]) for lot in contexts for x, y in combinations(lot, 2))


def stabilizer_table(state, paulis, contexts, family, paper):
    if not are_paulis(paulis, contexts) or own_wrong_state(state) is not True or not is_nothing(paper):
        return False
    if len(state) != len(paulis[0][1]) or len(paulis) > 6 or not is_family(((2,) * len(paulis), contexts), family):
        return False
    for context, row in zip(contexts, family):
        for section, number in zip(product((0, 1), repeat=len(context)), row):
            parts = [plus_one(matrix(paulis[x]), -1 if outcome else 1) for x, outcome in zip(context, section)]
            if frac(number) != trace_with(state, parts) / 2 ** len(context):
                return False
    return True


def valued(paulis, contexts, paper):
    if not are_paulis(paulis, contexts) or type(paper) is not tuple or len(paper) != len(paulis):
        return False
    return all(is_int(outcome) and outcome in (0, 1) for outcome in paper) and (
        all(solves(paper, row) for row in pauli_rows_of(paulis, contexts, mean_alone)))


def odd_whatever(paulis, contexts, paper):
    return are_paulis(paulis, contexts) and own_is_argument(((2,) * len(paulis), contexts), paper) and (
        set(paper) <= set(pauli_rows_of(paulis, contexts, mean_alone)))


def reads(text, lab, paper):
    return type(text) is str and own_is_lab(lab) and is_nothing(paper) and (
        own_read(text, own_is_scenario) == ("lab", lab))


def settled(lab, name, distribution, paper):
    if not own_is_lab(lab) or type(name) is not str or not is_nothing(paper):
        return False
    terms = {told: value for told, kind, value in lab[2] if kind == "term"}
    if name not in terms or not own_is_row(distribution, len(worlds(lab[1]))):
        return False
    joint = own_joint(lab, terms[name])
    return joint is not None and joint == [frac(number) for number in distribution]


def is_log_claim(scenario, log, family):
    return is_family(scenario, family) and type(log) is tuple and len(log) <= 400 and (
        all(own_is_entry(scenario, told) for told in log))


def most_likely(scenario, log, family, paper):
    return is_log_claim(scenario, log, family) and is_nothing(paper) and all(
        table is None or table == row for table, row in zip(own_tables(scenario, log), family))


def own_log_chance(scenario, log, family):
    sections = [secs(scenario, context) for context in scenario[1]]
    return prod((frac(family[at][sections[at].index(told)]) for at, told in log), start=Fraction(1))


def not_most_likely(scenario, log, family, paper):
    return is_log_claim(scenario, log, family) and is_family(scenario, paper) and (
        own_log_chance(scenario, log, paper) > own_log_chance(scenario, log, family))


def is_rounds_claim(scenario, game, number, wanted, chance):
    return is_game(scenario, game) and is_count(number) and is_count(wanted) and own_is_fraction(chance) and (
        0 <= frac(chance) <= 1)


def never_more(scenario, game, number, wanted, chance, paper):
    return is_rounds_claim(scenario, game, number, wanted, chance) and is_nothing(paper) and (
        own_tail(number, wanted, max(own_sums(scenario, lines(game)))) <= frac(chance))


def at_times_more(scenario, game, number, wanted, chance, paper):
    return is_rounds_claim(scenario, game, number, wanted, chance) and is_world(scenario, paper) and (
        own_tail(number, wanted, at_world(scenario, lines(game), paper)) > frac(chance))


def plan_claim(scenario, game, plan, wanted, chance, paper):
    if not is_game(scenario, game) or not is_count(wanted) or not own_is_fraction(chance) or not is_nothing(paper):
        return False
    number = own_rounds(scenario, plan)
    return number is not None and own_pairs_in(scenario, number) <= 400 and (
        own_plan_chance(scenario, game, plan, wanted) == frac(chance))


JUDGES = {
    "noncontextual": noncontextual, "contextual": contextual, "fraction": fraction, "acyclic": acyclic,
    "cyclic": cyclic, "joined": joined, "wins": wins, "wins less": wins_less, "reaches": reaches,
    "reaches less": reaches_less, "valid": valid, "broken": broken, "facet": facet, "no facet": no_facet,
    "equivalent": equivalent, "not equivalent": not_equivalent, "wired": wired,
    "strongly contextual": strongly_contextual, "possible": possible, "extends": extends,
    "does not extend": does_not_extend, "family with": family_with, "no family with": no_family_with,
    "parities solved": parities_solved, "all versus nothing": all_versus_nothing, "marking": marking,
    "Kochen-Specker": no_marking, "stabilizer table": stabilizer_table, "valued": valued,
    "odd whatever the state": odd_whatever, "reads": reads, "settled": settled, "most likely": most_likely,
    "not most likely": not_most_likely, "never more": never_more, "at times more": at_times_more,
    "plan": plan_claim}


def own_accepts(claim, paper):
    if type(claim) is not tuple or not claim or type(claim[0]) is not str or claim[0] not in JUDGES:
        return False
    judge = JUDGES[claim[0]]
    return len(claim) == judge.__code__.co_argcount and bool(judge(*claim[1:], paper))
