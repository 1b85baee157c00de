"""Points 12 to 14, and the interface of fleuron/fonts.py."""

import copy
import unittest

from fleuron.errors import InvalidFont
from fleuron.fonts import Font, Glyph, Lookup, Rule, glyph_of, lookups_of, same_font

BOX = [(0, 0, True), (10, 0, True), (10, 10, False)]


def arguments():
    """Return new arguments for a font that has something of everything."""
    glyphs = [
        Glyph(12, [BOX, BOX[:2]], anchors=[("base", 1, 5, -6)], deltas=[(0, 2, 3, -4), (0, -1, 5, 0)]),
        Glyph(20, [], parts=[(0, 0, 0), (0, 10, 5)], hint=[("push", 1), ("drop", 0)]),
        Glyph(0, [], mark=True),
    ]
    lookups = [
        Lookup("single", [Rule([[0, 1]], out=[1, 2])], ignore=True),
        Lookup("chain", [Rule([[0], [1, 2]], back=[[0]], ahead=[[1], [2]], calls=[(0, 0), (1, 0)])]),
        Lookup("pair", [Rule([[0], [1]], extra=-7)]),
    ]
    return {
        "unit": 100,
        "glyphs": glyphs,
        "chars": [(97, 0), (98, 1)],
        "lookups": lookups,
        "features": [("swap", [0, 2]), ("a", [])],
        "axes": [(100, 400, 900)],
        "regions": [[(0, 64, 64)]],
        "functions": [[("push", 2), ("drop", 0)], []],
        "presets": [5, -6],
    }


def font_of(changed):
    """Return the font of arguments."""
    others = {name: changed[name] for name in changed if name not in ("unit", "glyphs")}
    return Font(changed["unit"], changed["glyphs"], **others)


def contents(thing):
    """Return all that an object of the program has, as plain values."""
    if isinstance(thing, (Font, Glyph, Rule, Lookup)):
        return {name: contents(value) for name, value in vars(thing).items()}
    if isinstance(thing, list):
        return [contents(value) for value in thing]
    if isinstance(thing, tuple):
        return tuple(contents(value) for value in thing)
    return thing


def spoil(thing):
    """Change all lists and objects within a value."""
    if isinstance(thing, (Font, Glyph, Rule, Lookup)):
        for value in list(vars(thing).values()):
            spoil(value)
        for name in list(vars(thing)):
            setattr(thing, name, "spoiled")
    if isinstance(thing, (list, tuple)):
        for value in thing:
            spoil(value)
    if isinstance(thing, list):
        thing.append("spoiled")


class AttributesTest(unittest.TestCase):
    def test_glyph(self):
        glyph = Glyph(12, [BOX], parts=[(0, 1, 2)], anchors=[("exit", 0, 1, 2)], mark=True,
                      deltas=[(0, -1, 3, 4)], hint=[("push", 1)])
        self.assertEqual(vars(glyph), {
            "advance": 12, "outline": [BOX], "parts": [(0, 1, 2)], "anchors": [("exit", 0, 1, 2)], "mark": True,
            "deltas": [(0, -1, 3, 4)], "hint": [("push", 1)],
        })

    def test_glyph_without_further_arguments(self):
        self.assertEqual(vars(Glyph(5, [])), {
            "advance": 5, "outline": [], "parts": [], "anchors": [], "mark": False, "deltas": [], "hint": [],
        })

    def test_rule(self):
        rule = Rule([[0], [1, 2]], back=[[3]], ahead=[[4], [5]], out=[6, 7], calls=[(0, 1)], extra=-8)
        self.assertEqual(vars(rule), {
            "inside": [[0], [1, 2]], "back": [[3]], "ahead": [[4], [5]], "out": [6, 7], "calls": [(0, 1)], "extra": -8,
        })

    def test_rule_without_further_arguments(self):
        self.assertEqual(vars(Rule([[0]])), {
            "inside": [[0]], "back": [], "ahead": [], "out": [], "calls": [], "extra": 0,
        })

    def test_lookup(self):
        lookup = Lookup("marks", [Rule([[0], [1]])], ignore=True)
        self.assertEqual((lookup.kind, lookup.ignore, contents(lookup.rules)), ("marks", True, [vars(Rule([[0], [1]]))]))
        lookup = Lookup("single", [])
        self.assertEqual(vars(lookup), {"kind": "single", "rules": [], "ignore": False})

    def test_font(self):
        font = font_of(arguments())
        for name, value in arguments().items():
            self.assertEqual(contents(getattr(font, name)), contents(value), name)
        self.assertEqual(set(vars(font)), set(arguments()))

    def test_font_without_further_arguments(self):
        font = Font(16, [Glyph(0, [])])
        others = [getattr(font, name) for name in arguments() if name not in ("unit", "glyphs")]
        self.assertEqual(others, [[]] * 7)

    def test_tuples_that_were_passed_are_kept_as_lists(self):
        glyph = Glyph(1, (tuple(BOX),), parts=((0, 1, 2),), anchors=(("base", 0, 1, 2),), deltas=((0, 0, 1, 1),),
                      hint=(("push", 1),))
        self.assertEqual(vars(glyph), vars(Glyph(1, [BOX], parts=[(0, 1, 2)], anchors=[("base", 0, 1, 2)],
                                                 deltas=[(0, 0, 1, 1)], hint=[("push", 1)])))
        rule = Rule(((0,), (1,)), back=((2,),), ahead=((3,),), out=(4,), calls=((0, 0),))
        self.assertEqual(vars(rule), vars(Rule([[0], [1]], back=[[2]], ahead=[[3]], out=[4], calls=[(0, 0)])))
        self.assertEqual(contents(Lookup("single", (rule,)).rules), [vars(rule)])
        font = Font(16, (Glyph(1, []),), chars=((5, 0),), lookups=(Lookup("single", ()),), features=(("a", (0,)),),
                    axes=((0, 0, 1),), regions=(((0, 0, 0),),), functions=((("push", 1),),), presets=(1,))
        self.assertEqual(contents(font.glyphs), [contents(Glyph(1, []))])
        self.assertEqual((font.chars, font.features, font.axes), ([(5, 0)], [("a", [0])], [(0, 0, 1)]))
        self.assertEqual((font.regions, font.functions, font.presets), ([[(0, 0, 0)]], [[("push", 1)]], [1]))

    def test_only_font_checks(self):
        Glyph(-1, [[]], parts=[(9, 99999, 0)], anchors=[("odd", 77, 0, 0)], deltas=[(5, 5, 5, 5)], hint=[("odd", 0)])
        Rule([], back=[[]], out=[1] * 9, calls=[(7, 7)], extra=99999)
        Lookup("odd", [Rule([])] * 13)


class CopiesTest(unittest.TestCase):
    def test_what_was_passed_may_change_afterwards(self):
        passed = arguments()
        font = font_of(passed)
        before = contents(font)
        for value in passed.values():
            spoil(value)
        self.assertEqual(contents(font), before)

    def test_what_was_passed_to_glyphs_rules_and_lookups_may_change(self):
        passed = {"outline": [list(BOX)], "parts": [(0, 1, 2)], "hint": [("push", 1)]}
        glyph = Glyph(5, passed["outline"], parts=passed["parts"], hint=passed["hint"])
        sets = {"inside": [[0], [1]], "back": [[2]], "ahead": [[3]], "out": [4], "calls": [(0, 0)]}
        rule = Rule(**sets)
        rules = [rule]
        lookup = Lookup("single", rules)
        before = [contents(glyph), contents(rule), contents(lookup)]
        spoil(list(passed.values()))
        spoil(list(sets.values()))
        self.assertEqual([contents(glyph), contents(rule)], before[:2])
        spoil(rules)
        self.assertEqual(contents(lookup), before[2])

    def test_the_font_does_not_modify_what_is_passed(self):
        passed = arguments()
        before = contents(passed["glyphs"]), contents(passed["lookups"]), copy.deepcopy(passed["features"])
        font_of(passed)
        self.assertEqual((contents(passed["glyphs"]), contents(passed["lookups"]), passed["features"]), before)

    def test_nothing_that_is_returned_changes_the_font(self):
        font = font_of(arguments())
        before = contents(font)
        lookups_of(font, "swap").append(99)
        lookups_of(font, "none").append(99)
        self.assertEqual(contents(font), before)
        self.assertEqual((lookups_of(font, "swap"), lookups_of(font, "none")), ([0, 2], []))

    def test_one_glyph_that_is_passed_twice_becomes_two(self):
        glyph = Glyph(5, [])
        font = Font(16, [glyph, glyph])
        font.glyphs[0].advance = 7
        self.assertEqual((font.glyphs[1].advance, glyph.advance), (5, 5))


class QuestionsTest(unittest.TestCase):
    def test_the_example_of_the_interface(self):
        glyphs = [Glyph(12, [BOX]), Glyph(20, [], parts=[(0, 0, 0), (0, 10, 5)])]
        font = Font(100, glyphs, chars=[(97, 0)], lookups=[Lookup("single", [Rule([[0]], out=[1])])])
        self.assertEqual((glyph_of(font, 97), glyph_of(font, 98)), (0, None))
        with self.assertRaises(InvalidFont):
            Font(100, [Glyph(5, [], parts=[(0, 1, 1)])])

    def test_glyph_of(self):
        font = font_of(arguments())
        self.assertEqual([glyph_of(font, code) for code in (96, 97, 98, 99, -1, 0)], [None, 0, 1, None, None, None])

    def test_lookups_of(self):
        font = font_of(arguments())
        self.assertEqual([lookups_of(font, name) for name in ("swap", "a", "b", "", "swa")], [[0, 2], [], [], [], []])


class SameFontTest(unittest.TestCase):
    def assert_other(self, changed):
        """The font of the arguments is another one than that of those that are not changed."""
        font, other = font_of(arguments()), font_of(changed)
        self.assertIs(same_font(font, other), False)
        self.assertIs(same_font(other, font), False)
        self.assertIs(same_font(other, other), True)

    def test_equal_fonts(self):
        self.assertIs(same_font(font_of(arguments()), font_of(arguments())), True)
        as_tuples = arguments()
        as_tuples["features"] = tuple((name, tuple(numbers)) for name, numbers in as_tuples["features"])
        as_tuples["regions"] = tuple(tuple(region) for region in as_tuples["regions"])
        self.assertIs(same_font(font_of(arguments()), font_of(as_tuples)), True)

    def test_another_part_of_the_font(self):
        others = {
            "unit": 101,
            "glyphs": arguments()["glyphs"] + [Glyph(0, [])],
            "chars": [(97, 0), (98, 2)],
            "lookups": arguments()["lookups"] + [Lookup("single", [])],
            "features": [("a", []), ("swap", [0, 2])],
            "axes": [(100, 400, 901)],
            "regions": [[(0, 63, 64)]],
            "functions": [[("push", 2), ("drop", 1)], []],
            "presets": [5, -6, 0],
        }
        self.assertEqual(set(others), set(arguments()))
        for name in others:
            changed = arguments()
            changed[name] = others[name]
            self.assert_other(changed)

    def test_another_part_of_a_glyph(self):
        others = {
            "advance": 13, "outline": [BOX, [(0, 0, True), (10, 0, False)]], "parts": [(2, 0, 0)],
            "anchors": [("base", 2, 5, -6)], "mark": True, "deltas": [(0, 2, 3, -4)], "hint": [("push", 1)],
        }
        self.assertEqual(set(others), set(vars(Glyph(0, []))))
        for name in others:
            changed = arguments()
            setattr(changed["glyphs"][0], name, others[name])
            self.assert_other(changed)

    def test_another_part_of_a_lookup(self):
        for name, value in (("kind", "multiple"), ("rules", []), ("ignore", False)):
            changed = arguments()
            changed["lookups"] = [Lookup("single", [Rule([[0]], out=[1])], ignore=True)]
            changed["features"] = []
            other = copy.deepcopy(changed)
            setattr(other["lookups"][0], name, value)
            self.assertIs(same_font(font_of(changed), font_of(other)), False)

    def test_another_part_of_a_rule(self):
        parts = (
            (1, "inside", [[0], [1]]), (1, "back", []), (1, "ahead", [[1]]), (1, "calls", [(0, 0)]),
            (0, "out", [1, 1]), (2, "extra", -8),
        )
        for lookup, name, value in parts:
            changed = arguments()
            setattr(changed["lookups"][lookup].rules[0], name, value)
            self.assert_other(changed)


if __name__ == "__main__":
    unittest.main()
