"""The names, arguments and places of the interface, for the whole program."""

import ast
import inspect
import unittest
from importlib import import_module
from pathlib import Path

PACKAGE = Path(__file__).resolve().parent.parent / "fleuron"
CODES = "font codes features"
DRAW = "font codes features place=None size=16 * joins=() orders=()"
# For each file its functions with their parameters, as the interface lists them.
FUNCTIONS = {
    "ratios": {
        "ratio": "p q=1", "add": "a b", "subtract": "a b", "multiply": "a b", "divide": "a b", "compare": "a b",
        "nearest": "a", "down": "a",
    },
    "outlines": {
        "is_proper": "outline", "count_points": "outline", "box": "outline", "turning_sum": "outline",
        "moved": "outline x y", "reversed_outline": "outline", "lines": "outline",
    },
    "fonts": {"glyph_of": "font code", "lookups_of": "font name", "same_font": "font other"},
    "compose": {"flat_outline": "font glyph", "made_of": "font glyph", "depth": "font glyph"},
    "texts": {"read_font": "text", "write_font": "font"},
    "rules": {
        "sees": "font lookup glyph", "match": "font lookup run at forms=()", "matched_items": "font lookup run at rule",
        "apply_rules": "font lookup run forms=()",
    },
    "automata": {
        "patterns": "font lookup side", "status_after": "patterns_now row", "next_status": "patterns_now status glyph",
        "fits": "font lookup automaton", "build": "font lookup", "read": "automaton side row", "met_by": "automaton side row",
    },
    "papers": {
        "accepts_paper": "font lookup automaton side paper", "make_paper": "font lookup automaton side",
    },
    "substitute": {},
    "attach": {"pens": "run", "apply_attach": "font lookup run forms=()"},
    "scripts": {"forms": "codes joins", "arranged": "codes orders"},
    "shaping": {
        "plan": "font features", "start": "font codes * joins=() orders=()",
        "shape": CODES + " place=None * joins=() orders=()", "shape_by_rules": CODES + " place=None * joins=() orders=()",
    },
    "vary": {
        "shares": "font place", "factor": "region parts", "glyph_at": "font number place", "at_place": "font place",
    },
    "machine": {"run_program": "program zone steps", "rounded": "mode n", "kept": "n"},
    "bounds": {"judge_table": "code costs table", "judge_tables": "program tables", "make_tables": "program"},
    "straight": {"build_code": "program", "is_code": "code", "run_code": "code program zone"},
    "grid": {
        "scaled": "unit size n", "zone_of": "font outline size", "program_of": "font number size",
        "fitted": "font number size", "fitted_slow": "font number size",
    },
    "raster": {
        "winding": "rows x y", "fill": "rows", "glyph_pixels": "font number size", "moved_pixels": "pixels across along",
        "joined": "first second", "picture": "pixels",
    },
    "closure": {
        "kept_glyphs": CODES, "ranks": CODES, "reasons": CODES + " glyph", "accepts_reasons": CODES + " row",
    },
    "subset": {"subset_font": CODES},
    "packing": {"numbers_of": "font", "digits_of": "number", "pack": "font", "unpack": "numbers"},
    "foundry": {
        "cell": "font pen item size", "draw": DRAW, "draw_by_rules": DRAW, "draw_small": DRAW,
        "first_difference": "first second",
    },
}
# For each file its classes, with the parameters of each and those of its methods.
CLASSES = {
    "fonts": {
        "Glyph": {"__init__": "advance outline * parts=() anchors=() mark=False deltas=() hint=()"},
        "Rule": {"__init__": "inside * back=() ahead=() out=() calls=() extra=0"},
        "Lookup": {"__init__": "kind rules * ignore=False"},
        "Font": {"__init__": "unit glyphs * chars=() lookups=() features=() axes=() regions=() functions=() presets=()"},
    },
    "automata": {"Automaton": {"__init__": "fore back"}},
    "substitute": {
        "Engine": {
            "__init__": "font", "first_rule": "lookup run at forms=()", "apply": "lookup run forms=()", "apply_all": "steps run",
        },
    },
    "machine": {
        "Zone": {"__init__": "original current touched ends"},
        "Program": {"__init__": "main * functions=() presets=() size=0"}, "Outcome": {},
        "Machine": {"__init__": "program zone", "step": "", "outcome": ""},
    },
    "errors": {
        "FleuronError": {}, "TextError": {"__init__": "line reason"}, "InvalidFont": {"__init__": "place reason"},
        "NoTable": {"__init__": "function place"}, "TooLarge": {"__init__": "limit"},
        "UnknownGlyph": {"__init__": "number"}, "OutOfRange": {"__init__": "number"}, "ZeroDivisor": {"__init__": ""},
        "InvalidPlace": {"__init__": ""}, "InvalidSize": {"__init__": ""}, "InvalidTable": {"__init__": ""},
        "InvalidPacking": {"__init__": ""},
    },
}


def parameters(function):
    """Return the parameters of a function as they are written above."""
    words, starred = [], False
    for parameter in inspect.signature(function).parameters.values():
        if parameter.kind == parameter.KEYWORD_ONLY and not starred:
            words.append("*")
            starred = True
        default = parameter.default
        words.append(parameter.name if default is parameter.empty else f"{parameter.name}={default!r}")
    return " ".join(words)


def defined(name):
    """Return what a file defines itself at module level, by its names."""
    nodes = ast.parse((PACKAGE / f"{name}.py").read_text()).body
    return {node.name: node for node in nodes if isinstance(node, (ast.FunctionDef, ast.ClassDef))}


class InterfaceTest(unittest.TestCase):
    def test_functions(self):
        for file, functions in FUNCTIONS.items():
            module, own = import_module(f"fleuron.{file}"), defined(file)
            for name, wanted in functions.items():
                self.assertIsInstance(own.get(name), ast.FunctionDef, (file, name))
                self.assertEqual(parameters(getattr(module, name)), wanted, (file, name))

    def test_classes(self):
        for file, classes in CLASSES.items():
            module, own = import_module(f"fleuron.{file}"), defined(file)
            for name, methods in classes.items():
                self.assertIsInstance(own.get(name), ast.ClassDef, (file, name))
                written = [node.name for node in own[name].body if isinstance(node, ast.FunctionDef)]
                for method, wanted in methods.items():
                    self.assertIn(method, written, (file, name))
                    told = parameters(getattr(getattr(module, name), method))
                    self.assertEqual(told, f"self {wanted}".strip(), (file, name, method))

    def test_errors_stand_directly_below_one(self):
        errors = import_module("fleuron.errors")
        self.assertEqual(errors.FleuronError.__bases__, (ValueError,))
        for name in CLASSES["errors"]:
            if name != "FleuronError":
                self.assertEqual(getattr(errors, name).__bases__, (errors.FleuronError,))

    def test_attributes(self):
        errors = import_module("fleuron.errors")
        for error, wanted in (
            (errors.TextError(3, "word"), {"line": 3, "reason": "word"}),
            (errors.InvalidFont("unit", "why"), {"place": "unit", "reason": "why"}),
            (errors.NoTable(-1, 4), {"function": -1, "place": 4}), (errors.TooLarge("run"), {"limit": "run"}),
            (errors.UnknownGlyph(5), {"number": 5}), (errors.OutOfRange(6), {"number": 6}),
            (errors.ZeroDivisor(), {}), (errors.InvalidPlace(), {}), (errors.InvalidSize(), {}),
            (errors.InvalidTable(), {}), (errors.InvalidPacking(), {}),
        ):
            self.assertEqual(vars(error), wanted)
            self.assertIsInstance(error, ValueError)


if __name__ == "__main__":
    unittest.main()
