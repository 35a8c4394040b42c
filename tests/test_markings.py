"""[29]: vectors, orthogonal ones, bases, markings, trees, odd numbers of bases."""

import unittest
from fractions import Fraction
from itertools import combinations, product
from math import gcd

from belltables.errors import InvalidVectors
from belltables.markings import are_vectors, bases_of, marking, odd_bases, orthogonal_pairs
from tests.harness import Case
from tests.own import Maker, any_values, bent, is_int

AXES = ((1, 0, 0), (0, 1, 0), (0, 0, 1), (1, 1, 0))
CABELLO = (
    (0, 0, 0, 1), (0, 0, 1, 0), (1, 1, 0, 0), (1, -1, 0, 0), (0, 1, 0, 0), (1, 0, 1, 0), (1, 0, -1, 0), (1, -1, 1, -1),
    (1, -1, -1, 1), (0, 0, 1, 1), (1, 1, 1, 1), (0, 1, 0, -1), (1, 0, 0, 1), (1, 0, 0, -1), (0, 1, -1, 0),
    (1, 1, -1, 1), (1, 1, 1, -1), (-1, 1, 1, 1))


def own_multiple(one, other):
    """Whether one is the other times some fraction, of whichever sign."""
    at = next(at for at, number in enumerate(other) if number)
    share = Fraction(one[at], other[at])
    return share != 0 and all(a == share * b for a, b in zip(one, other))


def own_wrong(value):
    """What InvalidVectors tells; True if nothing is wrong."""
    if type(value) is not tuple or not 1 <= len(value) <= 31:
        return None
    for at, vector in enumerate(value):
        if type(vector) is not tuple or not 2 <= len(vector) <= 4 or not all(is_int(number) for number in vector):
            return at
        if not all(-9 <= number <= 9 for number in vector) or set(vector) == {0} or len(vector) != len(value[0]):
            return at
        if any(own_multiple(vector, other) for other in value[:at]):
            return at
    return True


def dot(one, other):
    return sum(a * b for a, b in zip(one, other))


def own_pairs(vectors):
    return tuple((i, j) for i, j in combinations(range(len(vectors)), 2) if dot(vectors[i], vectors[j]) == 0)


def own_bases(vectors):
    pairs = set(own_pairs(vectors))
    return tuple(lot for lot in combinations(range(len(vectors)), len(vectors[0]))
                 if all(pair in pairs for pair in combinations(lot, 2)))


def pool(many, most):
    """Vectors of numbers from -most to most, one for each direction."""
    found = []
    for vector in product(range(-most, most + 1), repeat=many):
        if any(vector) and next(number for number in vector if number) > 0 and gcd(*vector) == 1:
            found.append(vector)
    return found


class Forms(Case):
    def test_right(self):
        for right in (AXES, CABELLO, AXES[:1], ((1, 0),), ((9, -9), (9, 9)), tuple(pool(4, 1)[:31]),
                      tuple(pool(2, 9)[:31]), ((0, -9, 0),)):
            self.assertIs(are_vectors(right), True, right)

    def test_wrong(self):
        wrong = [
            (AXES + ((0, 0, 0),), 4), (AXES + ((1, 2),), 4), (AXES + ((1, 2, 3, 4),), 4), (AXES + ((10, 1, 1),), 4),
            (AXES + ((1, -10, 1),), 4), (AXES + ([1, 2, 3],), 4), (AXES + ((1, 2, True),), 4),
            (AXES + ((1, 2, "3"),), 4),
            (AXES + ((1, 2, None),), 4), (AXES + (None,), 4), (((1,), (2,)), 0), (((1, 0, 0, 0, 0),), 0), (((),), 0),
            (((0, 0), (0, 0)), 0), ((1, 2, 3), 0), (tuple(pool(4, 1)[:32]), None), ((), None), (list(AXES), None),
            (None, None), ("abc", None), ({}, None), (AXES[0], 0), ((AXES,), 0), (AXES + (None, (0, 0, 0)), 4),
            ((None,) * 31, 0), ((None,) * 32, None)]
        for value, index in wrong:
            self.assertIs(are_vectors(value), False, value)
            for function in (orthogonal_pairs, bases_of, marking, odd_bases):
                self.refuses((InvalidVectors, "index", index), function, value)

    def test_multiples(self):
        for one in ((2, 4, -6), (3, 0, 6), (0, 9, -3), (4, 4, 4), (0, 0, 5)):
            for top in range(-9, 10):
                for bottom in (1, 2, 3, 4, 6):
                    other = [Fraction(number * top, bottom) for number in one]
                    if not top or any(number.denominator > 1 or abs(number) > 9 for number in other):
                        continue
                    value = ((1, 2, 3), one, tuple(int(number) for number in other))
                    self.assertIs(are_vectors(value), False)
                    self.refuses((InvalidVectors, "index", 2), bases_of, value)
        self.assertIs(are_vectors(((1, 2), (2, 1), (1, -2), (-2, 3))), True)
        self.assertIs(are_vectors(((0, 0, 1), (0, 1, 0), (0, 1, 1), (1, 0, 0))), True)

    def test_bent(self):
        told = {True: 0, False: 0}
        for right in (AXES, ((2, 4), (1, 3), (0, 5)), CABELLO[:5]):
            for value in bent(right):
                wrong = own_wrong(value)
                told[wrong is True] += 1
                self.assertIs(are_vectors(value), wrong is True, value)
                if wrong is not True:
                    self.refuses((InvalidVectors, "index", wrong), odd_bases, value)
        self.assertGreater(min(told.values()), 50)

    def test_any_value(self):
        for value in any_values():
            for wrong in (value, (value,), (value,) + AXES, AXES + (value,), ((1, value),), ((value, 2),),
                          ((1, 2, value), (1, 1, 1))):
                self.assertIs(are_vectors(wrong), own_wrong(wrong) is True, wrong)
                if own_wrong(wrong) is not True:
                    self.refuses((InvalidVectors, "index", own_wrong(wrong)), marking, wrong)


class Markings(Case):
    def walk(self, vectors, tree, marks):
        """A tree is right: each way ends with a pair both 1, or a basis all 0."""
        self.assertIs(type(tree), tuple)
        if tree[0] == "pair":
            _, i, j = tree
            self.assertTrue(i < j and (i, j) in own_pairs(vectors) and marks.get(i) == marks.get(j) == 1)
        elif tree[0] == "basis":
            self.assertEqual(len(tree), 2)
            self.assertIn(tree[1], own_bases(vectors))
            self.assertTrue(all(marks.get(at) == 0 for at in tree[1]))
        else:
            at, one, zero = tree
            self.assertTrue(is_int(at) and 0 <= at < len(vectors) and at not in marks)
            self.walk(vectors, one, {**marks, at: 1})
            self.walk(vectors, zero, {**marks, at: 0})

    def judge(self, vectors):
        pairs, bases = own_pairs(vectors), own_bases(vectors)
        self.assertEqual(orthogonal_pairs(vectors), pairs)
        self.assertEqual(bases_of(vectors), bases)
        word, told = marking(vectors)
        if word == "marked":
            self.assertEqual(len(told), len(vectors))
            self.assertTrue(all(is_int(mark) and mark in (0, 1) for mark in told))
            self.assertFalse(any(told[i] and told[j] for i, j in pairs))
            self.assertTrue(all(sum(told[at] for at in basis) == 1 for basis in bases))
        else:
            self.assertEqual(word, "none")
            self.walk(vectors, told, {})
        odd = odd_bases(vectors)
        if odd is not None:
            self.assertEqual(word, "none")
            self.assertEqual(list(odd), sorted(set(odd)))
            self.assertLessEqual(set(odd), set(bases))
            self.assertEqual(len(odd) % 2, 1)
            self.assertTrue(all(sum(at in basis for basis in odd) % 2 == 0 for at in range(len(vectors))))
        return word, odd

    def test_cabello(self):
        word, odd = self.judge(CABELLO)
        self.assertEqual((word, len(bases_of(CABELLO)), len(orthogonal_pairs(CABELLO))), ("none", 9, 63))
        self.assertEqual(odd, own_bases(CABELLO))

    def test_two_left_out(self):
        for left in combinations(range(18), 2):
            vectors = tuple(vector for at, vector in enumerate(CABELLO) if at not in left)
            word, odd = self.judge(vectors)
            self.assertIsNone(odd)
            self.assertEqual(word, "marked")

    def test_more_vectors(self):
        """With others beside them the eighteen have no marking, either."""
        maker = Maker(121)
        more = [vector for vector in pool(4, 1) if not any(own_multiple(vector, other) for other in CABELLO)]
        for many in (1, 5, 13):
            vectors = list(CABELLO) + maker.random.sample(more, many)
            maker.random.shuffle(vectors)
            word, odd = self.judge(tuple(vectors))
            self.assertEqual(word, "none")
            self.assertIsNotNone(odd)

    def test_drawn(self):
        maker = Maker(122)
        words = {}
        for many, most in ((2, 2), (2, 9), (3, 1), (3, 2), (4, 1), (4, 2)):
            vectors = pool(many, most)
            for _ in range(12):
                drawn = maker.random.sample(vectors, min(len(vectors), maker.random.choice((1, 5, 13, 24, 31))))
                signs = [maker.random.choice((-1, 1)) for _ in drawn]
                turned = tuple(tuple(sign * number for number in vector) for sign, vector in zip(signs, drawn))
                word, _ = self.judge(turned)
                words[word] = words.get(word, 0) + 1
        self.assertGreater(words["marked"], 50)

    def test_all_small_ones(self):
        """The twenty-four of Peres have no marking; with sixteen drawn ones of forty it is either."""
        peres = tuple(vector for vector in pool(4, 1) if sum(map(abs, vector)) != 3)
        self.assertEqual(len(peres), 24)
        self.assertEqual(self.judge(peres)[0], "none")
        words = {}
        maker = Maker(123)
        for many in (18, 19, 20, 21, 22, 23):
            for _ in range(8):
                word, odd = self.judge(tuple(maker.random.sample(peres, many)))
                words[word] = words.get(word, 0) + 1
        self.assertEqual(set(words), {"marked", "none"})

    def test_beside_all_marks(self):
        """With few vectors a marking is there exactly if one of all rows of marks is one."""
        maker = Maker(124)
        for vectors in (pool(2, 2), pool(3, 1), pool(4, 1)):
            for _ in range(10):
                drawn = tuple(maker.random.sample(vectors, min(9, len(vectors))))
                pairs, bases = own_pairs(drawn), own_bases(drawn)
                rights = [marks for marks in product((0, 1), repeat=len(drawn))
                          if not any(marks[i] and marks[j] for i, j in pairs)
                          and all(sum(marks[at] for at in basis) == 1 for basis in bases)]
                word, told = marking(drawn)
                self.assertEqual(word, "marked" if rights else "none")
                if rights:
                    self.assertIn(told, rights)

    def test_no_basis(self):
        self.assertEqual((bases_of(((1, 2),)), odd_bases(((1, 2),))), ((), None))
        self.assertEqual(self.judge(((1, 2),))[0], "marked")
        self.assertEqual(bases_of(((1, 0), (1, 1), (0, 1), (1, -1))), ((0, 2), (1, 3)))


if __name__ == "__main__":
    unittest.main()
