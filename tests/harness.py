"""Checks that every function of the interface has to stand: errors, their order, names of arguments."""

import copy
from itertools import product
from unittest import TestCase


class Spec:
    """A function, right arguments in order, and for each name wrong values with (CLASS, ATTRIBUTE, WORTH).

    LASTS are (CHANGED, CLASS, ATTRIBUTE, WORTH): what is checked behind all arguments, CHANGED a dict of right ones.
    """

    def __init__(self, function, right, wrong, lasts=()):
        self.function = function
        self.right = right
        self.wrong = wrong
        self.lasts = lasts


class Case(TestCase):
    def refuses(self, told, function, *given, **named):
        """The call raises just this class, with just this attribute."""
        kind, attribute, worth = told
        with self.assertRaises(ValueError) as caught:
            function(*given, **named)
        error = caught.exception
        self.assertIs(type(error), kind)
        if attribute is None:
            self.assertEqual(vars(error), {})
        else:
            found = getattr(error, attribute)
            self.assertEqual(set(vars(error)), {attribute})
            self.assertTrue(found is worth or (type(found) is type(worth) and found == worth), (found, worth))

    def holds(self, spec):
        self.right_ones(spec)
        self.wrong_ones(spec)
        for changed, *told in spec.lasts:
            arguments = dict(spec.right)
            arguments.update(changed)
            self.refuses(told, spec.function, *arguments.values())
            self.refuses(told, spec.function, **arguments)
            self.before_last(spec, arguments)

    def right_ones(self, spec):
        """By position and by name, in any order, with the same answer, and nothing changed."""
        names = [name for name, _ in spec.right]
        values = [value for _, value in spec.right]
        kept = copy.deepcopy(values)
        answer = spec.function(*values)
        self.assertEqual(repr(values), repr(kept))
        self.assertEqual(repr(spec.function(*copy.deepcopy(values))), repr(answer))
        self.assertEqual(repr(spec.function(**dict(zip(names, values)))), repr(answer))
        self.assertEqual(repr(spec.function(**dict(zip(names[::-1], values[::-1])))), repr(answer))
        self.assertEqual(repr(spec.function(*values[:1], **dict(zip(names[1:], values[1:])))), repr(answer))

    def wrong_ones(self, spec):
        """Whatever arguments are wrong, the first one's error is raised."""
        for name, wrongs in spec.wrong.items():
            for value, told in wrongs:
                arguments = dict(spec.right)
                arguments[name] = value
                self.refuses(told, spec.function, *arguments.values())
                self.refuses(told, spec.function, **arguments)
        names = list(spec.wrong)
        for choice in product((False, True), repeat=len(names)):
            chosen = [name for name, is_chosen in zip(names, choice) if is_chosen]
            if chosen:
                arguments = dict(spec.right)
                arguments.update({name: spec.wrong[name][0][0] for name in chosen})
                first = next(name for name, _ in spec.right if name in chosen)
                self.refuses(spec.wrong[first][0][1], spec.function, **arguments)

    def before_last(self, spec, arguments):
        """A wrong argument comes ahead of what is checked last."""
        for name, wrongs in spec.wrong.items():
            beside = dict(arguments)
            beside[name] = wrongs[0][0]
            self.refuses(wrongs[0][1], spec.function, **beside)
