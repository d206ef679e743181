"""Points 2 to 5 over the whole program: the interface, arguments that stay as they are, equal results of equal calls."""

import copy
import importlib
import inspect
import unittest

from legsteps.certificates import certify_left
from legsteps.checker import accepts
from legsteps.consoles import Console
from legsteps.errors import StepError
from legsteps.workshops import Workshop
from samples import (
    BACK_EULER, EULER, HALF, HALVES, HUGE, LEAP, LESS_ONE, MORE_ONE, NIL, ODD_PAIRS, ODD_VALUES, ONE, THREE, TOUCHING, TWIN, TWO, WILD, Hostile,
    Sly, nested, rule_of, some_rules,
)
from wrongs import ORIGIN, WrongCase

# What each function is called with: some values for each of its parameters.
RULES = (EULER, BACK_EULER, HALVES, LEAP, TWIN, WILD, THREE, TOUCHING, rule_of((0, HUGE), (1, 3)), rule_of((2, 1), (0, 0))) + tuple(some_rules(4))
POLYNOMIALS = (LESS_ONE, MORE_ONE, (NIL, ONE), ((HUGE, 1), (1, HUGE)), (ONE, NIL, ONE), (), (HALF,))
POINTS = (ORIGIN, ((-1, 1), NIL), ((-2, 3), HALF), (ONE, (HUGE, 7)))
VALUES = {
    "polynomial": POLYNOMIALS, "other polynomial": POLYNOMIALS, "rule": RULES, "other": RULES, "point": POINTS, "fraction": (NIL, HALF, (-7, 3), (1, HUGE)),
    "many": (1, 10 ** 12), "slope": (ONE, (15, 1)), "ratio": (ONE, TWO, (1, HUGE)), "size": (ONE, (2, 7)), "steps": (1, 2, 8), "corrections": (1, 6),
    "number": (0, 1, 7), "length": (0, 1, 9), "starts": ((ONE,), (HALF, TWO), (ONE, (1, HUGE), NIL)), "table": (((HALF,),), (((1, 4), (-1, 2)), ((-1, 2), (5, 4)))),
    "value": (None, EULER, LESS_ONE, HALF, (NIL, (ONE, (-3, 1)), ((-2, 1), NIL))), "claim": (("safe", TWIN), ("unsafe", EULER), ("roots", (ONE,), (0, 0, 0)), None),
    "paper": ((), ((-2, 1), NIL), None),
}
FUNCTIONS = {
    "numbers": {"is_fraction": "value", "is_point": "value"},
    "polys": {
        "is_polynomial": "value", "plus": "polynomial other", "times": "polynomial other", "worth": "polynomial point", "divided": "polynomial other",
        "common": "polynomial other",
    },
    "roots": {"root_counts": "polynomial", "holds_condition": "polynomial", "are_inside": "polynomial"},
    "rules": {
        "is_rule": "value", "steps_of": "rule", "first_of": "rule", "second_of": "rule", "normed": "rule", "is_explicit": "rule",
        "defects": "rule number", "order_of": "rule", "error_number": "rule",
    },
    "convergence": {"converges": "rule", "why_not": "rule", "kernel": "rule number", "still_run": "rule starts number", "barrier": "rule"},
    "spots": {"point_word": "rule point", "point_counts": "rule point", "far_word": "rule"},
    "reals": {"stretches": "rule many", "damps_all": "rule", "undamped_below": "rule", "are_damped_alike": "rule other", "parting_real": "rule other"},
    "lefts": {
        "real_wave": "rule", "side_wave": "rule", "is_safe": "rule", "unsafe_point": "rule", "is_safe_in": "rule slope", "unsafe_point_in": "rule slope",
        "slope_near": "rule many",
    },
    "energies": {"is_energy": "rule table", "energy": "rule"},
    "bests": {
        "best": "polynomial", "best_explicit": "polynomial", "best_first": "polynomial steps", "adams": "steps", "moulton": "steps", "backward": "steps",
    },
    "likes": {
        "multiplied": "rule polynomial", "reduced": "rule", "are_same": "rule other", "are_alike": "rule other", "mixed": "rule other fraction",
    },
    "plains": {"keeps": "rule ratio", "greatest_ratio": "rule", "raising_play": "rule ratio", "is_raising": "rule ratio value"},
    "pairs": {
        "pair_polynomial": "rule other corrections point", "pair_counts": "rule other corrections point", "pair_word": "rule other corrections point",
        "pair_order": "rule other corrections", "pair_stretches": "rule other corrections many",
    },
    "runs": {
        "test_run": "rule fraction starts length", "slope_run": "rule polynomial size starts length", "local_error": "rule polynomial size number",
    },
    "checker": {"accepts": "claim paper"},
    "certificates": {
        "certify_roots": "polynomial", "certify_convergence": "rule", "certify_order": "rule", "certify_word": "rule point", "certify_reals": "rule",
        "certify_left": "rule", "certify_wedge": "rule slope", "certify_ratio": "rule ratio", "certify_likeness": "rule other",
        "certify_pair": "rule other corrections point",
    },
}


def all_functions():
    for file, names in FUNCTIONS.items():
        module = importlib.import_module("legsteps." + file)
        for name, parameters in names.items():
            yield getattr(module, name), parameters.split()


def values_of(parameters, name):
    return VALUES["other polynomial"] if name == "other" and parameters[0] == "polynomial" else VALUES[name]


def some_arguments(parameters, many=24):
    """Some tuples of arguments, each value of each parameter among them."""
    rows = [values_of(parameters, name) for name in parameters]
    for at in range(max([many] + [len(row) for row in rows])):
        # Each parameter goes about at its own pace.
        yield tuple(row[(at * (2 * to + 1) + at // len(row)) % len(row)] for to, row in enumerate(rows))


def outcome(function, *told, **named):
    """What the call returns, or the error that it raises."""
    try:
        return ("returned", function(*told, **named))
    except StepError as error:
        return ("raised", error.__class__, vars(error))


def kinds_in(value):
    """The classes of all that is in the value."""
    yield value.__class__
    if isinstance(value, (tuple, list)):
        for each in value:
            yield from kinds_in(each)


class Functions(unittest.TestCase):

    def test_each_stands_in_its_file_with_its_parameters(self):
        for function, parameters in all_functions():
            self.assertEqual(list(inspect.signature(function).parameters), parameters)
            kinds = {each.kind for each in inspect.signature(function).parameters.values()}
            self.assertEqual(kinds, {inspect.Parameter.POSITIONAL_OR_KEYWORD})
        for file, names in FUNCTIONS.items():
            for name in names:
                self.assertEqual(getattr(importlib.import_module("legsteps." + file), name).__module__, "legsteps." + file)

    def test_equal_calls_return_equal_results_and_change_nothing(self):
        seen = {}
        for function, parameters in all_functions():
            for row in some_arguments(parameters):
                before = copy.deepcopy(row)
                told = outcome(function, *row)
                seen[told[0]] = seen.get(told[0], 0) + 1
                self.assertEqual(row, before)
                self.assertEqual(outcome(function, *before), told)
                self.assertEqual(outcome(function, **dict(reversed(list(zip(parameters, row))))), told)
        self.assertGreater(seen["returned"], 800)
        self.assertGreater(seen["raised"], 100)

    def test_only_tuples_numbers_texts_and_words_are_returned(self):
        for function, parameters in all_functions():
            for row in some_arguments(parameters):
                told = outcome(function, *row)
                if told[0] == "returned":
                    self.assertLessEqual(set(kinds_in(told[1])), {tuple, int, bool, str, type(None)}, function)

    def test_whether_is_told_by_true_and_false(self):
        names = ("is_", "are_", "holds_", "damps_", "keeps", "converges", "accepts")
        for function, parameters in all_functions():
            if function.__name__.startswith(names):
                for row in some_arguments(parameters):
                    told = outcome(function, *row)
                    self.assertTrue(told[0] == "raised" or told[1] is True or told[1] is False, function)

    def test_wrong_arguments_are_kept_and_lists_are_not_taken(self):
        for function, parameters in all_functions():
            if parameters[0] in ("value", "claim"):
                continue
            row = next(some_arguments(parameters))
            for odd in (list(row[0]) if isinstance(row[0], tuple) else [row[0]], None, True, Sly(), Hostile(), nested(14), {}):
                told = outcome(function, odd, *row[1:])
                self.assertEqual(told[0], "raised")
                self.assertIs(told[2]["given"], odd)

    def test_values_that_may_be_whatever_they_are(self):
        for function, parameters in all_functions():
            if parameters == ["value"]:
                for odd in ODD_VALUES[:-1] + ODD_PAIRS:
                    self.assertIs(function(odd), False)
            if parameters == ["claim", "paper"]:
                for odd in ODD_VALUES + ODD_PAIRS:
                    self.assertIs(function(odd, odd), False)


class Objects(WrongCase):

    def test_equal_shops_tell_equal_things(self):
        told = []
        for _ in range(2):
            shop = Workshop()
            console = Console(shop)
            answers = []
            for line in ("put a: -1/1 1/1; 1/2 1/2", "put b: -1/1 1/1; 1/1 0/1", "names", "why a", "order b", "word a: -1/1 0/1", "drop b", "undo", "rule b", "x"):
                answers.append(outcome(console.say, line))
            answers += [outcome(shop.wish, wish) for wish in (("safe", "a"), ("safe", "b"), ("safe",), ("keeps", "b", ONE))]
            answers += [outcome(shop.drop, "b"), outcome(shop.lift, 5), outcome(shop.lift, 0), shop.names, shop.wishes, len(shop), shop.named("a")]
            told.append(answers)
        self.assertEqual(told[0], told[1])

    def test_arguments_of_methods_stay_as_they_are(self):
        wish, rule = ("damps", "a", ((-1, 1), NIL)), HALVES
        before = copy.deepcopy((wish, rule))
        shop = Workshop()
        shop.put("a", rule)
        shop.wish(wish)
        self.assertEqual((wish, rule), before)
        odd = [["a"], {"b": [1]}]
        kept = copy.deepcopy(odd)
        for method in (shop.drop, shop.named, shop.wish, shop.lift, Console(shop).say, Console):
            self.assertEqual(outcome(method, odd)[0], "raised")
            self.assertEqual(odd, kept)
        accepts(odd, odd)
        self.assertEqual(odd, kept)

    def test_certificates_may_be_passed_on_whole(self):
        certificate = certify_left(EULER)
        self.assertIs(accepts(*certificate), True)
        self.assertIs(accepts(certificate, ()), False)
        self.assertIs(accepts(certificate[1], certificate[0]), False)


if __name__ == "__main__":
    unittest.main()
