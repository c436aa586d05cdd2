"""The names of the interface: where they are defined, with which parameters, and the methods of the classes."""

import importlib
import inspect
import unittest

FUNCTIONS = {
    "checks": {
        "is_integer": "value", "is_within": "value least most", "are_integers": "value", "is_point": "value wide",
        "is_lot": "value many", "common_divisor": "values", "coprime": "values",
    },
    "papers": {"fixed": "value"},
    "planes": {"rank_of": "rows", "span_of": "points", "plane_through": "points"},
    "solids": {"side_of": "solid lot", "moved": "solid rows shift"},
    "ridges": {"ridges_of": "solid", "near": "solid side", "are_near": "solid one other"},
    "steps": {"steps_from": "solid side", "apart": "solid one other", "farthest": "solid"},
    "ways": {"ways": "solid one other", "parted": "solid gone"},
    "check_steps": {"shows_apart": "solid one other value", "shows_ways": "solid one other value"},
    "spindles": {"turned_over": "spindle", "shifted": "spindle upper lower", "length_of": "spindle"},
    "between": {
        "between": "spindle", "parts_of": "spindle side", "crossings": "spindle", "ring_of": "spindle",
    },
    "middles": {"middle": "spindle"},
    "overs": {"lies_over": "first second", "led_numbers": "first second over numbers"},
    "pulls": {
        "is_plain": "spindle", "pulled": "spindle point", "made_plain": "spindle", "pulls_of": "spindle",
    },
    "check_overs": {"shows_over": "first second value"},
    "likenesses": {"likenesses_of": "points given", "kinds_of": "points given lots"},
    "check_long": {"shows_long": "value"},
    "lifts": {
        "lifted": "spindle point heights by", "least_by": "spindle point heights", "lift_of": "spindle",
        "lifts_of": "spindle", "led_through": "spindle lifts",
    },
    "wells": {"well": "spindle point heights by", "led_up": "spindle point heights by well numbers"},
    "plans": {"plan": "dimension points length"},
    "check_lifts": {"shows_well": "spindle point heights by value", "shows_lift": "spindle value"},
    "corners": {"beside": "solid point", "path": "solid one other"},
    "turned": {"turned": "solid numbers by"},
    "boards": {"is_board": "solid", "agreeing": "solid one other", "short_path": "solid one other"},
    "sums": {"worth_at": "solid row point", "best": "solid row start"},
    "check_corners": {
        "shows_path": "solid one other value", "shows_short": "solid one other value",
        "shows_best": "solid row start value",
    },
}
# For each class its parameters, and the methods that the interface lists for it, with theirs.
CLASSES = {
    "papers": {"Paper": ("word parts", {"__eq__": "other"}), "Denial": ("word parts", {"__eq__": "other"})},
    "solids": {"Solid": ("points", {"__eq__": "other", "__str__": "", "read": "text"})},
    "steps": {"Apart": ("walk numbers", {})},
    "ways": {"Ways": ("walks", {})},
    "spindles": {"Spindle": ("points", {"__eq__": "other", "__str__": "", "read": "text"})},
    "overs": {"Over": ("sides", {}), "Strays": ("side", {}), "Leaps": ("one other", {})},
    "likenesses": {
        "Likeness": ("places signs", {"__eq__": "other", "led": "point", "then": "other", "back": "", "same": "wide"}),
    },
    "fortyeight": {"Long": ("", {"__eq__": "other", "near": "side", "given": "", "numbers": "", "walk": ""})},
    "lifts": {"Lift": ("point heights by", {})},
    "wells": {"Well": ("sides", {}), "Shut": ("side", {})},
    "plans": {"Plan": ("dimension points length above", {})},
    "corners": {"Path": ("points numbers", {})},
    "boards": {"Short": ("points", {})},
    "sums": {"Best": ("points weights by", {})},
}
STATIC = ("read", "same")


def parameters_of(value):
    return " ".join(inspect.signature(value).parameters)


class InterfaceTest(unittest.TestCase):
    def test_functions(self):
        for name, functions in FUNCTIONS.items():
            module = importlib.import_module(f"spindleway.{name}")
            for each, parameters in functions.items():
                function = getattr(module, each)
                self.assertEqual(function.__module__, module.__name__)
                self.assertEqual(parameters_of(function), parameters, each)

    def test_classes(self):
        for name, classes in CLASSES.items():
            module = importlib.import_module(f"spindleway.{name}")
            for each, (parameters, methods) in classes.items():
                made = getattr(module, each)
                self.assertEqual(made.__module__, module.__name__)
                self.assertEqual(parameters_of(made), parameters, each)
                for method, others in methods.items():
                    # Defined in the class itself, not only in one above it.
                    self.assertIn(method, vars(made), each)
                    own = getattr(made, method)
                    wanted = others if method in STATIC else f"self {others}".strip()
                    self.assertEqual(parameters_of(own), wanted, f"{each}.{method}")


if __name__ == "__main__":
    unittest.main()
