"""[43]: desks, beside the tests' own model of one: changes, errors, undoing, trials."""

import unittest

from belltables import errors
from belltables.desks import Desk
from belltables.labs import family_in, is_lab
from tests.harness import Case
from tests.own import (
    BELL, BOX, CHSH, COIN, GAME, HALF, LIKE, NIL, Maker, any_values, is_int, own_is_section, pairs, part,
    secs, worlds)
from tests.test_labs import EVEN, LAB, NAMES, NOISY, TAME, THINGS, own_is_name, own_is_thing, own_stands
from tests.test_language import SCENARIOS, drawn_lab, drawn_term
from tests.test_logs import TOP, own_pick

KINDS = ("family", "joint", "weights", "game", "term")
FULL = tuple((f"t{at}", "term", EVEN) for at in range(20))


def told_in(term):
    """The names that a term tells."""
    if term[0] in ("of", "name"):
        return {term[1]}
    return {name for inside in term[1:] if type(inside) is tuple and inside and type(inside[0]) is str
            for name in told_in(inside)}


class Model:
    """The tests' own desk; each change tells None, or what is wrong as (CLASS, ATTRIBUTE, WORTH)."""

    def __init__(self, lab):
        self.states = [(lab, ())]

    @property
    def lab(self):
        return self.states[-1][0]

    @property
    def log(self):
        return self.states[-1][1]

    def next(self, lab, log):
        self.states.append((lab, log))

    def put(self, name, kind, value):
        names, scenario, things = self.lab
        if not own_is_name(name) or name in names or name in [told for told, _, _ in things]:
            return (errors.InvalidName, "given", name)
        if type(kind) is not str or kind not in KINDS:
            return (errors.InvalidTerm, "given", kind)
        kinds, counts = {told: "observable" for told in names}, {}
        for thing in things:
            assert own_is_thing(scenario, kinds, counts, thing)
        if not own_is_thing(scenario, kinds, counts, (name, kind, value)):
            return (errors.InvalidTerm, "given", value)
        lab = (names, scenario, things + ((name, kind, value),))
        if len(things) >= 20:
            return (errors.InvalidLab, "given", lab)
        return self.next(lab, self.log)

    def drop(self, name):
        names, scenario, things = self.lab
        if type(name) is not str or name not in [told for told, _, _ in things]:
            return (errors.InvalidName, "given", name)
        users = [told for told, kind, value in things if kind == "term" and name in told_in(value)]
        if users:
            return (errors.InUse, "given", users[0])
        return self.next((names, scenario, tuple(thing for thing in things if thing[0] != name)), self.log)

    def is_context(self, context):
        return is_int(context) and 0 <= context < len(self.lab[1][1])

    def note(self, context, section):
        if not self.is_context(context):
            return (errors.InvalidNumber, "given", context)
        if not own_is_section(self.lab[1], self.lab[1][1][context], section):
            return (errors.InvalidSection, "given", section)
        if len(self.log) >= 400:
            return (errors.InvalidLog, "index", None)
        return self.next(self.lab, self.log + ((context, section),))

    def roll(self, name, context, die):
        scenario = self.lab[1]
        things = {told: (kind, value) for told, kind, value in self.lab[2]}
        if type(name) is not str or things.get(name, ("weights",))[0] in ("weights", "game"):
            return (errors.InvalidName, "given", name)
        if not self.is_context(context):
            return (errors.InvalidNumber, "given", context)
        if not is_int(die) or not 0 <= die <= TOP:
            return (errors.InvalidNumber, "given", die)
        if len(self.log) >= 400:
            return (errors.InvalidLog, "index", None)
        kind, value = things[name]
        lot = scenario[1][context]
        if kind == "joint":
            section = part(worlds(scenario)[own_pick(value, die)], lot)
        else:
            rows = value if kind == "family" else pairs(own_stands(self.lab, value))
            section = secs(scenario, lot)[own_pick(rows[context], die)]
        return self.next(self.lab, self.log + ((context, section),))

    def clear(self):
        return self.next(self.lab, ())

    def undo(self):
        if len(self.states) == 1:
            return (errors.NothingToUndo, None, None)
        self.states.pop()
        return None


class Desks(Case):
    def same(self, desk, model):
        self.assertEqual((desk.lab, desk.log, len(desk)), (model.lab, model.log, len(model.states) - 1))
        self.assertIs(bool(desk), True)

    def does(self, desk, model, word, *given):
        """One step for both; what is told, and what is there then."""
        before = list(model.states)
        wrong = getattr(model, word)(*given)
        if wrong is None:
            self.assertIsNone(getattr(desk, word)(*given))
        else:
            self.refuses(wrong, getattr(desk, word), *given)
            self.assertEqual(model.states, before)
        self.same(desk, model)
        return wrong

    def drawn_step(self, maker, lab):
        """A word, and what is passed, right or wrong."""
        draw = maker.random
        names, scenario, things = lab
        known = {name: kind for name, kind, _ in things}
        named = list(known) + list(names) + ["t0", "even", "nobody", None, "A"]
        word = draw.choice(("put",) * 5 + ("drop",) * 3 + ("note", "roll", "roll", "clear", "undo", "undo"))
        context = draw.choice(list(range(len(scenario[1]))) * 4 + [-1, len(scenario[1]), True, None])
        lot = scenario[1][context] if is_int(context) and 0 <= context < len(scenario[1]) else (0,)
        if word == "put":
            kind = draw.choice(KINDS + ("term",) * 4)
            value = {"family": lambda: maker.family(scenario), "joint": lambda: maker.distribution(scenario),
                     "weights": lambda: maker.weights(scenario), "game": lambda: maker.game(scenario),
                     "term": lambda: drawn_term(maker, scenario, known, 3)}[kind]()
            name = draw.choice([f"t{draw.randrange(30)}", f"t{draw.randrange(30)}", draw.choice(named)])
            return word, (name, draw.choice([kind] * 9 + ["Term", None, "joint"]), draw.choice([value] * 9 + [None,
                                                                                                              EVEN]))
        if word == "drop":
            return word, (draw.choice(named),)
        if word == "note":
            return word, (context, draw.choice([draw.choice(secs(scenario, lot))] * 5 + [(), None, [0],
                                                                                         (9,) * len(lot)]))
        if word == "roll":
            return word, (draw.choice(named), context, draw.choice([draw.randrange(10 ** 12)] * 5 + [TOP, -1, TOP + 1]))
        return word, ()

    def test_drawn_orders(self):
        maker = Maker(191)
        wrongs = {}
        for scenario in SCENARIOS:
            for _ in range(4):
                lab = drawn_lab(maker, scenario)
                desk, model = Desk(lab), Model(lab)
                for _ in range(70):
                    word, given = self.drawn_step(maker, model.lab)
                    wrong = self.does(desk, model, word, *given)
                    wrongs[wrong and wrong[0]] = wrongs.get(wrong and wrong[0], 0) + 1
                    self.assertIs(is_lab(desk.lab), True)
                while len(desk):
                    self.does(desk, model, "undo")
                self.assertEqual((desk.lab, desk.log), (lab, ()))
                self.does(desk, model, "undo")
        self.assertLessEqual({None, errors.InvalidName, errors.InvalidTerm, errors.InUse, errors.InvalidNumber,
                              errors.InvalidSection, errors.NothingToUndo}, set(wrongs))

    def test_at_first(self):
        for lab in (LAB, (("a",), COIN, ()), (NAMES, BELL, FULL)):
            desk = Desk(lab)
            self.assertIs(desk.lab, lab)
            self.assertEqual((desk.log, len(desk)), ((), 0))
            self.refuses((errors.NothingToUndo, None, None), desk.undo)

    def test_true_and_equal(self):
        one, other = Desk(LAB), Desk(LAB)
        self.assertTrue(one == one and one != other and not one == other and not one != one)
        self.assertIs(bool(one), True)
        self.assertTrue(one)
        self.assertNotIn(one, [other, LAB, None, ()])
        self.assertIn(one, [other, one])
        one.clear()
        self.assertTrue(one and len(one) == 1 and one != other)

    def test_one_by_one(self):
        desk, model = Desk(LAB), Model(LAB)
        steps = [("clear",), ("put", "half", "term", ("mix", HALF, ("name", "noisy"), EVEN)), ("note", 3, (0, 1)),
                 ("roll", "half", 1, 77), ("drop", "half"), ("clear",), ("clear",), ("roll", "coin", 0, 5),
                 ("drop", "both"), ("drop", "noisy"), ("drop", "box"), ("put", "box", "family", (LIKE,) * 4),
                 ("put", "noisy", "term", ("name", "box"))]
        for step in steps:
            self.assertIsNone(self.does(desk, model, *step))
        self.assertEqual(len(desk), len(steps))
        for left in reversed(range(len(steps))):
            self.does(desk, model, "undo")
            self.assertEqual(len(desk), left)
        self.does(desk, model, "undo")

    def test_no_change_counts(self):
        """A change to what was there can be undone, too."""
        desk = Desk(LAB)
        desk.clear()
        desk.clear()
        self.assertEqual((len(desk), desk.log, desk.lab), (2, (), LAB))
        desk.undo()
        self.assertEqual(len(desk), 1)

    def test_behind_undo(self):
        """What was undone is gone."""
        desk, model = Desk(LAB), Model(LAB)
        for step in (("note", 0, (0, 0)), ("note", 1, (0, 1)), ("undo",), ("note", 2, (1, 1)), ("undo",), ("undo",)):
            self.does(desk, model, *step)
        self.assertEqual((desk.log, len(desk)), ((), 0))

    def test_full_log(self):
        desk, model = Desk(LAB), Model(LAB)
        for at in range(400):
            self.does(desk, model, *(("note", at % 4, (0, 1)) if at % 3 else ("roll", "box", at % 4, at)))
        for step in (("note", 0, (0, 0)), ("roll", "box", 0, 0), ("note", 4, (0, 0)), ("note", 0, (0, 2)),
                     ("roll", "win", 0, 0), ("roll", "box", 4, 0), ("roll", "box", 0, -1)):
            self.assertIsNotNone(self.does(desk, model, *step))
        self.assertEqual((len(desk.log), len(desk)), (400, 400))
        self.does(desk, model, "undo")
        self.assertIsNone(self.does(desk, model, "roll", "tame", 2, 10 ** 50))
        self.does(desk, model, "clear")
        self.assertIsNone(self.does(desk, model, "note", 0, (0, 0)))

    def test_full_lab(self):
        lab = (NAMES, BELL, FULL)
        desk, model = Desk(lab), Model(lab)
        told = self.does(desk, model, "put", "more", "term", ("name", "t3"))
        self.assertEqual(told, (errors.InvalidLab, "given", (NAMES, BELL, FULL + (("more", "term", ("name", "t3")),))))
        for step in (("put", "t3", "term", EVEN), ("put", "more", "Term", EVEN), ("put", "more", "term", None)):
            self.assertNotEqual(self.does(desk, model, *step)[0], errors.InvalidLab)
        self.does(desk, model, "drop", "t7")
        self.assertIsNone(self.does(desk, model, "put", "more", "term", ("name", "t3")))
        self.assertEqual([name for name, _, _ in desk.lab[2]][6:8] + [desk.lab[2][-1][0]], ["t6", "t8", "more"])

    def test_put(self):
        """Each kind; names, kinds, values that are wrong, the first one told."""
        for kind, value in (("family", BOX), ("joint", LAB[2][1][2]), ("weights", CHSH), ("game", GAME), ("term",
                                                                                                          TAME)):
            desk, model = Desk(LAB), Model(LAB)
            self.assertIsNone(self.does(desk, model, "put", "new", kind, value))
            self.assertEqual(desk.lab[2][:-1], THINGS)
            for other in KINDS:
                if other != kind and (kind, other) != ("family", "weights"):
                    self.assertEqual(self.does(desk, model, "put", "other", other, value),
                                     (errors.InvalidTerm, "given", value))
            for name in ("new", "box", "coin", "a", "y", "even", "A", "", None, 3, "a b", "a123456789012", ["new"]):
                self.assertEqual(self.does(desk, model, "put", name, kind, value), (errors.InvalidName, "given", name))
                self.assertEqual(self.does(desk, model, "put", name, "Term", None), (errors.InvalidName, "given", name))
            for wrong in ("Family", "terms", None, 0, ("term",), ["term"], b"term", "name", "of", "observables", ""):
                self.assertEqual(self.does(desk, model, "put", "other", wrong, None), (errors.InvalidTerm, "given",
                                                                                       wrong))

    def test_terms_there(self):
        """A term tells what is there now."""
        desk, model = Desk((NAMES, BELL, ())), Model((NAMES, BELL, ()))
        self.assertIsNotNone(self.does(desk, model, "put", "noisy", "term", NOISY))
        self.assertIsNone(self.does(desk, model, "put", "box", "family", BOX))
        self.assertIsNone(self.does(desk, model, "put", "noisy", "term", NOISY))
        self.assertIsNotNone(self.does(desk, model, "put", "tame", "term", ("name", "tame")))
        self.assertEqual(self.does(desk, model, "drop", "box"), (errors.InUse, "given", "noisy"))
        self.assertIsNone(self.does(desk, model, "put", "more", "term", ("turn", 0, (1, 0), ("name", "box"))))
        self.assertEqual(self.does(desk, model, "drop", "box"), (errors.InUse, "given", "noisy"))
        self.assertIsNone(self.does(desk, model, "drop", "noisy"))
        self.assertEqual(self.does(desk, model, "drop", "box"), (errors.InUse, "given", "more"))
        self.assertIsNone(self.does(desk, model, "drop", "more"))
        self.assertIsNone(self.does(desk, model, "drop", "box"))
        self.assertEqual(desk.lab, (NAMES, BELL, ()))

    def test_drop_of_a_joint_one(self):
        desk, model = Desk(LAB), Model(LAB)
        self.assertEqual(self.does(desk, model, "drop", "coin"), (errors.InUse, "given", "tame"))
        self.assertIsNone(self.does(desk, model, "drop", "tame"))
        self.assertIsNone(self.does(desk, model, "drop", "coin"))
        for name in ("chsh", "win", "both"):
            self.assertIsNone(self.does(desk, model, "drop", name))
        for name in ("coin", "a", "nobody", None, 0, ["box"], ("box",), b"box", "Box"):
            self.assertEqual(self.does(desk, model, "drop", name), (errors.InvalidName, "given", name))

    def test_rolls(self):
        """A joint distribution's die picks a global assignment, all others' a section."""
        maker = Maker(192)
        for scenario in SCENARIOS:
            lab = drawn_lab(maker, scenario)
            lab = (lab[0], scenario, lab[2][:9] + (("fam", "family", maker.family(scenario)),
                                                   ("jnt", "joint", maker.distribution(scenario)),
                                                   ("trm", "term", ("mix", HALF, ("of", "jnt"), ("name", "fam"))),
                                                   ("sur", "term", ("of", "jnt"))))
            desk, model = Desk(lab), Model(lab)
            for name in [name for name, _, _ in lab[2]] + [lab[0][0], "nobody"]:
                for context in range(len(scenario[1])):
                    for die in (0, 1, maker.random.randrange(10 ** 9), TOP):
                        self.does(desk, model, "roll", name, context, die)

    def test_joint_and_term_alike(self):
        """What a term of a joint distribution picks goes by its row, not by the hidden assignment."""
        row = tuple((1, 4) if world in ((0, 1), (1, 0)) else (1, 2) if world == (1, 1) else NIL
                    for world in ((0, 0), (0, 1), (1, 0), (1, 1)))
        lab = (("a", "b"), ((2, 2), ((0,), (1,))), (("j", "joint", row), ("t", "term", ("of", "j"))))
        desk, model = Desk(lab), Model(lab)
        for name in ("j", "t"):
            for context in (0, 1):
                for die in range(4):
                    self.does(desk, model, "roll", name, context, die)
        self.assertEqual([section[0] for _, section in desk.log], [0, 1, 1, 1, 1, 0, 1, 1, 0, 1, 1, 1, 0, 1, 1, 1])
        self.assertEqual(family_in(lab, "t")[1], ((1, 4), (3, 4)))


class Errors(Case):
    def test_made(self):
        for value in any_values() + [LAB[:2], list(LAB), (NAMES[:3], BELL, ()), (NAMES, BELL, THINGS[1:]), Desk(LAB)]:
            self.refuses((errors.InvalidLab, "given", value), Desk, value)
            self.refuses((errors.InvalidLab, "given", value), Desk, lab=value)
        self.assertEqual(Desk(lab=LAB).lab, LAB)

    def test_by_name(self):
        desk = Desk(LAB)
        self.assertIsNone(desk.put(value=EVEN, kind="term", name="new"))
        self.assertIsNone(desk.put("newer", value=EVEN, kind="term"))
        self.assertIsNone(desk.drop(name="new"))
        self.assertIsNone(desk.note(section=(0, 1), context=2))
        self.assertIsNone(desk.roll(die=3, name="coin", context=1))
        self.assertEqual((desk.log, len(desk)), (((2, (0, 1)), (1, (1, 1))), 5))
        self.assertEqual(desk.tried(action=len), 5)

    def test_in_order(self):
        """The first argument that is wrong, for each that are wrong together."""
        desk = Desk(LAB)
        rights = {"put": [("name", "new"), ("kind", "term"), ("value", EVEN)], "drop": [("name", "both")],
                  "note": [("context", 0), ("section", (0, 1))],
                  "roll": [("name", "box"), ("context", 0), ("die", 4)]}
        wrongs = {
            "put": {"name": ("box", errors.InvalidName), "kind": ("no", errors.InvalidTerm),
                    "value": (None, errors.InvalidTerm)},
            "drop": {"name": ("nobody", errors.InvalidName)},
            "note": {"context": (4, errors.InvalidNumber), "section": ((0, 2), errors.InvalidSection)},
            "roll": {"name": ("chsh", errors.InvalidName), "context": (-1, errors.InvalidNumber),
                     "die": (TOP + 1, errors.InvalidNumber)}}
        for word, right in rights.items():
            names = [name for name, _ in right]
            for chosen in range(1, 2 ** len(names)):
                given = dict(right)
                wrong = [name for at, name in enumerate(names) if chosen >> at & 1]
                given.update({name: wrongs[word][name][0] for name in wrong})
                value, kind = wrongs[word][wrong[0]]
                self.refuses((kind, "given", value), getattr(desk, word), *given.values())
                self.refuses((kind, "given", value), getattr(desk, word), **given)
        self.assertEqual((desk.lab, desk.log, len(desk)), (LAB, (), 0))

    def test_any_value(self):
        desk = Desk(LAB)
        for value in any_values():
            if not own_is_name(value):
                self.refuses((errors.InvalidName, "given", value), desk.put, value, "term", EVEN)
            self.refuses((errors.InvalidName, "given", value), desk.drop, value)
            self.refuses((errors.InvalidName, "given", value), desk.roll, value, 0, 0)
            self.refuses((errors.InvalidTerm, "given", value), desk.put, "new", value, EVEN)
            for kind in KINDS:
                self.refuses((errors.InvalidTerm, "given", value), desk.put, "new", kind, value)
            if not is_int(value) or not 0 <= value < 4:
                self.refuses((errors.InvalidNumber, "given", value), desk.note, value, (0, 0))
                self.refuses((errors.InvalidNumber, "given", value), desk.roll, "box", value, 0)
            if not own_is_section(BELL, (0, 2), value):
                self.refuses((errors.InvalidSection, "given", value), desk.note, 0, value)
            if not is_int(value) or not 0 <= value <= TOP:
                self.refuses((errors.InvalidNumber, "given", value), desk.roll, "box", 0, value)
            self.assertEqual((desk.lab, desk.log, len(desk)), (LAB, (), 0))


class Halt(Exception):
    """What rows may end with."""


class Trials(Case):
    def state(self, desk):
        return (desk.lab, desk.log, len(desk))

    def test_without_an_exception(self):
        desk = Desk(LAB)
        with desk.trial() as given:
            self.assertIs(given, desk)
            given.note(0, (0, 0))
            given.put("new", "term", EVEN)
        self.assertEqual((desk.log, len(desk), desk.lab[2][-1][0]), (((0, (0, 0)),), 2, "new"))
        desk.undo()
        desk.undo()
        self.assertEqual(self.state(desk), (LAB, (), 0))

    def test_with_an_exception(self):
        for kind in (Halt, ValueError, KeyboardInterrupt, GeneratorExit, errors.InUse):
            desk = Desk(LAB)
            desk.note(1, (1, 1))
            desk.clear()
            before = self.state(desk)
            raised = kind("x")
            with self.assertRaises(kind) as caught:
                with desk.trial():
                    desk.note(0, (0, 0))
                    desk.drop("both")
                    desk.undo()
                    desk.undo()
                    desk.undo()
                    desk.undo()
                    desk.note(3, (0, 0))
                    raise raised
            self.assertIs(caught.exception, raised)
            self.assertEqual(self.state(desk), before)
            desk.undo()
            self.assertEqual(self.state(desk), (LAB, ((1, (1, 1)),), 1))
            desk.undo()
            self.assertEqual(self.state(desk), (LAB, (), 0))

    def test_errors_of_the_desk(self):
        desk = Desk(LAB)
        with self.assertRaises(errors.InUse):
            with desk.trial() as given:
                given.drop("both")
                given.drop("box")
        self.assertEqual(self.state(desk), (LAB, (), 0))
        with self.assertRaises(errors.NothingToUndo):
            with desk.trial() as given:
                given.note(0, (0, 0))
                given.undo()
                given.undo()
        self.assertEqual(self.state(desk), (LAB, (), 0))

    def test_a_call_alone(self):
        desk = Desk(LAB)
        desk.note(0, (0, 0))
        kept = desk.trial()
        desk.note(1, (0, 0))
        self.assertEqual(len(desk), 2)
        # The rows begin behind the second note.
        with self.assertRaises(Halt):
            with kept:
                desk.clear()
                raise Halt
        self.assertEqual((len(desk), len(desk.log)), (2, 2))
        # And begin once more, later on.
        desk.note(2, (0, 0))
        with self.assertRaises(Halt):
            with kept:
                desk.clear()
                raise Halt
        self.assertEqual((len(desk), len(desk.log)), (3, 3))

    def test_nested(self):
        desk = Desk(LAB)
        with desk.trial():
            desk.note(0, (0, 0))
            try:
                with desk.trial():
                    desk.note(1, (0, 0))
                    desk.undo()
                    desk.undo()
                    desk.drop("both")
                    raise Halt
            except Halt:
                self.assertEqual(self.state(desk), (LAB, ((0, (0, 0)),), 1))
            with desk.trial():
                desk.note(2, (0, 0))
        self.assertEqual(desk.log, ((0, (0, 0)), (2, (0, 0))))
        before = self.state(desk)
        with self.assertRaises(Halt):
            with desk.trial():
                desk.note(0, (0, 0))
                with desk.trial():
                    desk.note(3, (0, 0))
                desk.drop("both")
                with desk.trial():
                    desk.clear()
                    raise Halt
        self.assertEqual(self.state(desk), before)

    def test_one_trial_in_itself(self):
        desk = Desk(LAB)
        kept = desk.trial()
        with self.assertRaises(Halt):
            with kept:
                desk.note(0, (0, 0))
                with kept:
                    desk.note(1, (0, 0))
                self.assertEqual(len(desk), 2)
                try:
                    with kept:
                        desk.clear()
                        raise Halt
                except Halt:
                    self.assertEqual(len(desk), 2)
                raise Halt
        self.assertEqual(self.state(desk), (LAB, (), 0))

    def test_two_desks(self):
        one, other = Desk(LAB), Desk(LAB)
        with self.assertRaises(Halt):
            with one.trial():
                one.clear()
                other.clear()
                raise Halt
        self.assertEqual((len(one), len(other)), (0, 1))

    def test_tried(self):
        desk = Desk(LAB)

        def fine(given):
            self.assertIs(given, desk)
            given.note(0, (0, 0))
            return ["told", given]

        told = desk.tried(fine)
        self.assertEqual(told[0], "told")
        self.assertIs(told[1], desk)
        self.assertEqual(desk.log, ((0, (0, 0)),))
        self.assertIsNone(desk.tried(lambda given: None))

        def wrong(given):
            given.clear()
            given.drop("both")
            given.drop("box")

        self.refuses((errors.InUse, "given", "noisy"), desk.tried, wrong)
        self.assertEqual(self.state(desk), (LAB, ((0, (0, 0)),), 1))

        def halting(given):
            given.tried(fine)
            given.undo()
            given.undo()
            raise Halt

        with self.assertRaises(Halt):
            desk.tried(halting)
        self.assertEqual(self.state(desk), (LAB, ((0, (0, 0)),), 1))

        def catching(given):
            with self.assertRaises(Halt):
                given.tried(halting)
            return len(given)

        self.assertEqual(desk.tried(catching), 1)
        desk.undo()
        self.assertEqual(self.state(desk), (LAB, (), 0))

    def test_drawn(self):
        """Trials in one another, beside states that are kept by hand."""
        maker = Maker(193)
        desk = Desk(LAB)

        def change():
            word = maker.random.choice(("clear", "undo", "note", "note", "put"))
            try:
                if word == "note":
                    desk.note(maker.random.randrange(4), (0, 1))
                elif word == "put":
                    desk.put(f"n{maker.random.randrange(40)}", "term", EVEN)
                else:
                    getattr(desk, word)()
            except errors.LabError:
                pass

        def rows(deep):
            kept = self.state(desk)
            ends = maker.random.random() < 0.5
            try:
                with desk.trial():
                    for _ in range(4):
                        change()
                        if deep:
                            rows(deep - 1)
                    told = self.state(desk)
                    if ends:
                        raise Halt
            except Halt:
                self.assertEqual(self.state(desk), kept)
            else:
                self.assertFalse(ends)
                self.assertEqual(self.state(desk), told)

        for _ in range(10):
            rows(3)
        while len(desk):
            desk.undo()
        self.assertEqual(self.state(desk), (LAB, (), 0))


if __name__ == "__main__":
    unittest.main()
