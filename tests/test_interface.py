"""The interface: each name stands in the file that the document tells, with the parameters that it tells."""

import importlib
import inspect
import pkgutil
import unittest

import belltables
from belltables import errors
from tests.test_errors import BARE, GIVEN, INDEX, PLACE

FUNCTIONS = {
    "scenarios": "is_scenario(value) sections_of(scenario, lot) is_family(scenario, value) "
                 "is_distribution(scenario, value) is_weights(scenario, value) "
                 "marginal(scenario, family, context, lot) is_no_signalling(scenario, family) "
                 "family_of(scenario, distribution) mixture(scenario, one, two, share)",
    "joint": "joint_or_inequality(scenario, family) value(scenario, weights, family) local_bound(scenario, weights) "
             "is_noncontextual(scenario, family)",
    "fractions": "noncontextual_fraction(scenario, family) contextual_fraction(scenario, family) "
                 "covering(scenario, family) is_covering(scenario, value) rest_of(scenario, family)",
    "acyclic": "is_acyclic(scenario) reduction(scenario) is_reduction(scenario, value) "
               "joint_along(scenario, family, reduction) obstruction(scenario) is_obstruction(scenario, value) "
               "family_against(scenario, obstruction)",
    "games": "is_game(scenario, value) game_value(scenario, game, family) classical_value(scenario, game) "
             "no_signalling_value(scenario, game) is_bound_of(scenario, game, value) "
             "most_value(scenario, game, family)",
    "inequalities": "is_inequality(scenario, value) greatest(scenario, weights) is_valid(scenario, inequality) "
                    "dimension(scenario) is_facet(scenario, inequality) normal(scenario, inequality)",
    "relabellings": "relabellings(scenario) led_family(scenario, relabelling, family) "
                    "led_inequality(scenario, relabelling, inequality) canonical(scenario, inequality) "
                    "between(scenario, one, two)",
    "wirings": "is_wiring(scenario, other, value) wired(scenario, other, wiring, family) beside(scenario, other) "
               "beside_families(scenario, family, other, second)",
    "possible": "is_support(scenario, value) support_of(scenario, family) is_consistent(scenario, support) "
                "extending(scenario, support) extension(scenario, support, context, section) "
                "non_extending(scenario, support) contextuality_of(scenario, support) hardy(scenario, support) "
                "family_with(scenario, support)",
    "parity": "parity_rows(scenario, support) solved_or_odd(scenario, support) is_argument(scenario, value)",
    "markings": "are_vectors(value) orthogonal_pairs(vectors) bases_of(vectors) marking(vectors) odd_bases(vectors)",
    "paulis": "is_pauli(value) pauli_product(pauli, other) do_commute(pauli, other) is_state(value) group_of(state) "
              "mean_of(state, pauli) pauli_scenario(paulis, contexts) pauli_family(state, paulis, contexts) "
              "pauli_rows(state, paulis, contexts) family_or_odd(state, paulis, contexts) "
              "valued_or_odd(paulis, contexts)",
    "labs": "is_lab(value) is_term(lab, value) family_in(lab, name) is_settled(lab, name) open_share(lab, name) "
            "joint_in(lab, name)",
    "language": "read_lab(text) lab_text(lab)",
    "logs": "pick(row, die) play(scenario, family, rounds) play_joint(scenario, distribution, rounds) "
            "counts(scenario, log) tables(scenario, log) log_chance(scenario, family, log) gaps(scenario, log)",
    "memory": "tail(number, wins, share) is_plan(scenario, number, value) plan_chance(scenario, game, plan, wins) "
              "constant_plan(scenario, number, assignment) wins_of(scenario, game, log) level(scenario, game, log) "
              "rounds_needed(scenario, game, share)",
    "checker": "accepts(claim, paper)",
    "certificates": "certify_family(scenario, family) certify_fraction(scenario, family) certify_scenario(scenario)",
    "certifygames": "certify_wins(scenario, game, number) certify_reaches(scenario, game, number) "
                    "certify_facet(scenario, inequality) certify_equivalent(scenario, one, two)",
    "certifysupports": "certify_support(scenario, support) certify_family_with(scenario, support) "
                       "certify_parities(scenario, support) certify_marking(vectors) "
                       "certify_valued(paulis, contexts)",
    "certifylabs": "certify_log(scenario, log, family) certify_memory(scenario, game, number, wins, share)",
}
CLASSES = {
    ("desks", "Desk"): "__init__(self, lab) put(self, name, kind, value) drop(self, name) "
                       "note(self, context, section) roll(self, name, context, die) clear(self) undo(self) "
                       "__len__(self) trial(self) tried(self, action)",
    ("consoles", "Console"): "__init__(self, desk) say(self, line)",
}


def told(text):
    """Pairs of a name and its parameters."""
    return [(part.split("(")[0].strip(), part.split("(")[1].split(", ")) for part in text.split(")") if "(" in part]


class Interface(unittest.TestCase):
    def test_functions(self):
        for file, text in FUNCTIONS.items():
            module = importlib.import_module("belltables." + file)
            for name, parameters in told(text):
                function = vars(module)[name]
                self.assertTrue(inspect.isfunction(function), name)
                self.assertEqual(function.__module__, module.__name__)
                found = inspect.signature(function).parameters
                self.assertEqual(list(found), parameters, name)
                for parameter in found.values():
                    self.assertEqual(parameter.kind, inspect.Parameter.POSITIONAL_OR_KEYWORD)
                    self.assertIs(parameter.default, inspect.Parameter.empty)

    def test_classes(self):
        for (file, name), text in CLASSES.items():
            module = importlib.import_module("belltables." + file)
            kind = vars(module)[name]
            self.assertEqual((kind.__module__, kind.__bases__), (module.__name__, (object,)))
            for method, parameters in told(text):
                function = vars(kind)[method]
                self.assertTrue(inspect.isfunction(function), method)
                self.assertEqual(list(inspect.signature(function).parameters), parameters)
            self.assertNotIn("__eq__", vars(kind))

    def test_errors(self):
        for names, parameters in ((GIVEN, ["given"]), (INDEX, ["index"]), (PLACE, ["line", "place"])):
            for name in names:
                found = inspect.signature(getattr(errors, name).__init__).parameters
                self.assertEqual(list(found)[1:], parameters)
        for name in BARE:
            self.assertEqual(getattr(errors, name).__bases__, (errors.LabError,))

    def test_all_files_are_imported(self):
        for found in pkgutil.iter_modules(belltables.__path__):
            self.assertTrue(importlib.import_module("belltables." + found.name).__doc__, found.name)


if __name__ == "__main__":
    unittest.main()
