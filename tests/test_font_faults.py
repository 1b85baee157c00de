"""Point 15: the first place at which a font does not hold."""

import unittest

from fleuron.errors import InvalidFont
from fleuron.fonts import Font, Glyph, Lookup, Rule

BOX = [(0, 0, True), (10, 0, True), (10, 10, True)]
FAR = 16384
WORDS = (
    "push drop copy swap add subtract multiply divide negate amount lesser greater down up round less atmost equal "
    "not and or look go mode value load setvalue save get origin move set align between jump jumpzero call repeat size"
).split()


def font(unit=100, glyphs=None, **others):
    """Return a font with three glyphs, where no others are given."""
    return Font(unit, three() if glyphs is None else glyphs, **others)


def three():
    """Return three glyphs, the last one a mark."""
    return [Glyph(12, [BOX]), Glyph(20, []), Glyph(0, [], mark=True)]


def with_glyph(glyph, **others):
    """Return a font with a glyph behind the three."""
    return font(glyphs=three() + [glyph], **others)


def with_lookup(kind, *rules):
    """Return a font whose lookup 3, behind a single, a multiple and a chain, is the given one."""
    return font(lookups=[Lookup("single", []), Lookup("multiple", []), Lookup("chain", []), Lookup(kind, rules)])


class FaultsTest(unittest.TestCase):
    def assert_fault(self, place, make, *given, **named):
        """Making the font is refused for this place."""
        with self.assertRaises(InvalidFont) as caught:
            make(*given, **named)
        self.assertEqual(caught.exception.place, place)
        self.assertIsInstance(caught.exception.reason, str)

    def test_unit(self):
        for unit in (16, FAR):
            self.assertEqual(font(unit).unit, unit)
        for unit in (15, 0, -16, FAR + 1):
            self.assert_fault("unit", font, unit)

    def test_number_of_glyphs(self):
        for many in (1, 60):
            self.assertEqual(len(font(glyphs=[Glyph(0, [])] * many).glyphs), many)
        for many in (0, 61):
            self.assert_fault("glyphs", font, glyphs=[Glyph(0, [])] * many)

    def test_advance(self):
        for advance in (0, FAR):
            self.assertEqual(with_glyph(Glyph(advance, [])).glyphs[3].advance, advance)
        for advance in (-1, FAR + 1):
            self.assert_fault("glyph 3", with_glyph, Glyph(advance, []))

    def test_outline(self):
        with_glyph(Glyph(0, [BOX[:2]] * 40))
        with_glyph(Glyph(0, [[(FAR, -FAR, True)] * 200]))
        for outline in ([BOX[:2]] * 41, [BOX[:1]], [[]], [BOX * 67], [[(0, 0, True), (FAR + 1, 0, True)]]):
            self.assert_fault("glyph 3", with_glyph, Glyph(0, outline))

    def test_parts(self):
        with_glyph(Glyph(0, [], parts=[(0, FAR, -FAR), (2, -FAR, FAR), (0, 0, 0)]))
        for part in ((4, 0, 0), (-1, 0, 0), (0, FAR + 1, 0), (0, 0, FAR + 1), (0, -FAR - 1, 0), (0, 0, -FAR - 1)):
            self.assert_fault("glyph 3", with_glyph, Glyph(0, [], parts=[(0, 0, 0), part]))

    def test_anchors(self):
        for kind in ("base", "mark", "entry", "exit"):
            with_glyph(Glyph(0, [], anchors=[(kind, 0, FAR, -FAR), (kind, 9, -FAR, FAR)] * 2))
        wrong = (("bases", 0, 0, 0), ("", 0, 0, 0), ("base", -1, 0, 0), ("base", 10, 0, 0), ("base", 0, FAR + 1, 0),
                 ("base", 0, -FAR - 1, 0), ("base", 0, 0, FAR + 1), ("base", 0, 0, -FAR - 1))
        for anchor in wrong:
            self.assert_fault("glyph 3", with_glyph, Glyph(0, [], anchors=[("base", 0, 0, 0), anchor]))

    def test_deltas(self):
        regions = [[], []]
        for delta in ((0, -1, FAR, -FAR), (1, 4, -FAR, FAR), (0, 0, 0, 0)):
            with_glyph(Glyph(0, [BOX, BOX[:2]], deltas=[delta]), regions=regions)
        with_glyph(Glyph(0, [], deltas=[(0, -1, 1, 1)]), regions=regions)
        wrong = ((2, 0, 0, 0), (-1, 0, 0, 0), (0, -2, 0, 0), (0, 5, 0, 0), (0, 0, FAR + 1, 0), (0, 0, -FAR - 1, 0),
                 (0, 0, 0, FAR + 1), (0, 0, 0, -FAR - 1))
        for delta in wrong:
            glyph = Glyph(0, [BOX, BOX[:2]], deltas=[(0, 0, 0, 0), delta])
            self.assert_fault("glyph 3", with_glyph, glyph, regions=regions)
        self.assert_fault("glyph 3", with_glyph, Glyph(0, [], deltas=[(0, 0, 1, 1)]), regions=regions)
        self.assert_fault("glyph 3", with_glyph, Glyph(0, [], deltas=[(0, -1, 1, 1)]))

    def test_hints(self):
        self.assertEqual(len(WORDS), 39)
        with_glyph(Glyph(0, [], hint=[(word, -3) for word in WORDS]))
        with_glyph(Glyph(0, [], hint=[("push", -2147483648), ("push", 2147483647)]))
        for step in (("push", -2147483649), ("push", 2147483648), ("odd", 0), ("take", 0), ("", 0), ("Push", 0)):
            self.assert_fault("glyph 3", with_glyph, Glyph(0, [], hint=[("push", 0), step]))

    def test_glyphs_that_are_parts_of_themselves(self):
        self.assert_fault("parts", with_glyph, Glyph(0, [], parts=[(0, 0, 0), (3, 0, 0)]))
        circle = [Glyph(0, []), Glyph(0, [], parts=[(2, 0, 0)]), Glyph(0, [], parts=[(0, 0, 0), (1, 0, 0)])]
        self.assert_fault("parts", font, glyphs=circle)
        circle = [Glyph(0, [], parts=[((k + 1) % 7, 0, 0)]) for k in range(7)]
        self.assert_fault("parts", font, glyphs=circle)

    def test_depths_of_4_and_of_5(self):
        def tower(many):
            return [Glyph(0, [BOX])] + [Glyph(0, [], parts=[(0, 0, 0), (k, 1, 1)]) for k in range(many)]

        self.assertEqual(len(font(glyphs=tower(4)).glyphs), 5)
        self.assert_fault("parts", font, glyphs=tower(5))
        self.assertEqual(len(font(glyphs=tower(4)[:1] + [Glyph(0, [], parts=[(0, 0, 0)])] * 59).glyphs), 60)

    def test_chars(self):
        font(chars=[(0, 2), (1, 2), (1114111, 0)])
        wrong = ([(-1, 0)], [(1114112, 0)], [(5, 0), (5, 1)], [(5, 0), (4, 0)], [(5, 3)], [(5, -1)])
        for chars in wrong:
            self.assert_fault("chars", font, chars=chars)

    def test_number_of_lookups(self):
        font(lookups=[Lookup("single", [])] * 20)
        self.assert_fault("lookups", font, lookups=[Lookup("single", [])] * 21)

    def test_kind_and_number_of_rules(self):
        for kind in ("odd", "", "mark"):
            self.assert_fault("lookup 3", with_lookup, kind)
        with_lookup("cursive", *[Rule([[0]])] * 12)
        self.assert_fault("lookup 3", with_lookup, "cursive", *[Rule([[0]])] * 13)

    def test_sets(self):
        right = ([0], [2], [0, 1, 2], [0, 2])
        wrong = ([], [3], [-1], [0, 3], [0, 0], [1, 0], [0, 2, 1])
        for chosen in right:
            with_lookup("cursive", Rule([chosen]))
            with_lookup("chain", Rule([[0], chosen], back=[[1], chosen], ahead=[[1], chosen]))
        for chosen in wrong:
            self.assert_fault("lookup 3", with_lookup, "cursive", Rule([chosen]))
            self.assert_fault("lookup 3", with_lookup, "chain", Rule([[0], chosen]))
            self.assert_fault("lookup 3", with_lookup, "chain", Rule([[0]], back=[[0], chosen]))
            self.assert_fault("lookup 3", with_lookup, "chain", Rule([[0]], ahead=[[0], chosen]))

    def test_numbers_of_sets_inside(self):
        limits = {"single": (1, 1), "multiple": (1, 1), "ligature": (2, 4), "chain": (1, 4), "reverse": (1, 1),
                  "pair": (2, 2), "cursive": (1, 1), "marks": (2, 2)}
        for kind, (least, most) in limits.items():
            for many in range(6):
                out = [0] if kind in ("single", "ligature", "reverse") else []
                rule = Rule([[0]] * many, out=out)
                if least <= many <= most:
                    with_lookup(kind, rule)
                else:
                    self.assert_fault("lookup 3", with_lookup, kind, rule)

    def test_sets_back_and_ahead(self):
        for kind, inside, out in (("chain", [[0]], []), ("reverse", [[0]], [1])):
            with_lookup(kind, Rule(inside, back=[[0]] * 3, ahead=[[0]] * 3, out=out))
            self.assert_fault("lookup 3", with_lookup, kind, Rule(inside, back=[[0]] * 4, out=out))
            self.assert_fault("lookup 3", with_lookup, kind, Rule(inside, ahead=[[0]] * 4, out=out))
        others = (("single", 1, [1]), ("multiple", 1, []), ("ligature", 2, [1]), ("pair", 2, []), ("cursive", 1, []),
                  ("marks", 2, []))
        for kind, many, out in others:
            with_lookup(kind, Rule([[0]] * many, out=out))
            self.assert_fault("lookup 3", with_lookup, kind, Rule([[0]] * many, back=[[0]], out=out))
            self.assert_fault("lookup 3", with_lookup, kind, Rule([[0]] * many, ahead=[[0]], out=out))

    def test_out(self):
        with_lookup("multiple", Rule([[0]], out=[2] * 8), Rule([[0]]), Rule([[0]], out=[2, 0, 1]))
        self.assert_fault("lookup 3", with_lookup, "multiple", Rule([[0]], out=[2] * 9))
        self.assert_fault("lookup 3", with_lookup, "multiple", Rule([[0]], out=[3]))
        self.assert_fault("lookup 3", with_lookup, "multiple", Rule([[0]], out=[-1]))
        for kind in ("single", "reverse"):
            with_lookup(kind, Rule([[0, 1, 2]], out=[0, 0, 0]))
            for out in ([], [0], [0, 0, 0]):
                self.assert_fault("lookup 3", with_lookup, kind, Rule([[0, 1]], out=out))
        for out in ([], [0, 1]):
            self.assert_fault("lookup 3", with_lookup, "ligature", Rule([[0], [1]], out=out))
        for kind, many in (("chain", 1), ("pair", 2), ("cursive", 1), ("marks", 2)):
            self.assert_fault("lookup 3", with_lookup, kind, Rule([[0]] * many, out=[0]))

    def test_a_set_and_out_of_8_glyphs_and_of_9(self):
        nine = [Glyph(0, [])] * 9
        for kind in ("single", "reverse"):
            rule = Rule([list(range(8))], out=[0] * 8)
            font(glyphs=nine, lookups=[Lookup(kind, [rule])])
            rule = Rule([list(range(9))], out=[0] * 9)
            self.assert_fault("lookup 0", font, glyphs=nine, lookups=[Lookup(kind, [rule])])

    def test_calls(self):
        with_lookup("chain", Rule([[0]] * 4, calls=[(0, 0), (1, 1), (3, 0)]), Rule([[0]]))
        wrong = ([(2, 0)], [(-1, 0)], [(0, 0), (0, 1)], [(1, 0), (0, 0)], [(0, 2)], [(0, 3)], [(0, 4)], [(0, -1)])
        for calls in wrong:
            self.assert_fault("lookup 3", with_lookup, "chain", Rule([[0], [1]], calls=calls))
        others = (("single", 1, [1]), ("multiple", 1, []), ("ligature", 2, [1]), ("reverse", 1, [1]), ("pair", 2, []),
                  ("cursive", 1, []), ("marks", 2, []))
        for kind, many, out in others:
            self.assert_fault("lookup 3", with_lookup, kind, Rule([[0]] * many, out=out, calls=[(0, 0)]))

    def test_a_chain_may_call_a_later_lookup(self):
        chain = Lookup("chain", [Rule([[0]], calls=[(0, 1)])])
        font(lookups=[chain, Lookup("multiple", [])])
        self.assert_fault("lookup 0", font, lookups=[chain, Lookup("ligature", [])])
        self.assert_fault("lookup 1", font, lookups=[chain, Lookup("multiple", [Rule([])])])
        chain = Lookup("chain", [Rule([[0]], calls=[(0, -1)])])
        self.assert_fault("lookup 0", font, lookups=[chain, Lookup("multiple", [])])

    def test_extra(self):
        for extra in (FAR, -FAR, 0):
            with_lookup("pair", Rule([[0], [1]], extra=extra))
        for extra in (FAR + 1, -FAR - 1):
            self.assert_fault("lookup 3", with_lookup, "pair", Rule([[0], [1]], extra=extra))
        others = (("single", 1, [1]), ("multiple", 1, []), ("ligature", 2, [1]), ("chain", 1, []), ("reverse", 1, [1]),
                  ("cursive", 1, []), ("marks", 2, []))
        for kind, many, out in others:
            self.assert_fault("lookup 3", with_lookup, kind, Rule([[0]] * many, out=out, extra=1))

    def test_the_second_rule_of_a_lookup(self):
        self.assert_fault("lookup 3", with_lookup, "cursive", Rule([[0]]), Rule([[3]]))

    def test_features(self):
        lookups = [Lookup("single", [])] * 3
        letters = "abcdefghijkl"
        font(lookups=lookups, features=[(letter, []) for letter in letters])
        font(lookups=lookups, features=[("z", [0, 1, 2]), ("abcd", [0, 2]), ("zz", [])])
        wrong = ([(letter, []) for letter in letters + "m"], [("", [])], [("abcde", [])], [("Ab", [])], [("a1", [])],
                 [("\xe9", [])], [("a", []), ("b", []), ("a", [])], [("a", [3])], [("a", [-1])], [("a", [1, 1])],
                 [("a", [1, 0])])
        for features in wrong:
            self.assert_fault("features", font, lookups=lookups, features=features)

    def test_axes(self):
        font(axes=[(0, 0, 0)] * 3)
        font(axes=[(-FAR, 0, FAR), (5, 5, 6), (5, 6, 6)])
        wrong = ([(0, 0, 0)] * 4, [(1, 0, 2)], [(0, 2, 1)], [(2, 2, 1)], [(-FAR - 1, 0, 0)], [(0, 0, FAR + 1)])
        for axes in wrong:
            self.assert_fault("axes", font, axes=axes)

    def test_regions(self):
        font(regions=[[]] * 8)
        axes = [(0, 1, 2)] * 2
        tents = ((-64, 0, 64), (0, 64, 64), (-64, -64, 0), (0, 0, 0), (5, 5, 5), (-9, -5, 0), (0, 1, 64), (-1, 0, 1))
        for tent in tents:
            font(axes=axes, regions=[[tent, (0, 0, 0)]])
        wrong = ((-65, 0, 0), (0, 0, 65), (1, 0, 2), (0, 2, 1), (-1, 1, 1), (-1, -1, 1), (-64, 5, 64))
        for tent in wrong:
            self.assert_fault("regions", font, axes=axes, regions=[[(0, 0, 0), (0, 0, 0)], [(0, 0, 0), tent]])
        for many in (0, 1, 3):
            self.assert_fault("regions", font, axes=axes, regions=[[(0, 0, 0)] * many])
        self.assert_fault("regions", font, regions=[[]] * 9)
        self.assert_fault("regions", font, regions=[[(0, 0, 0)]])

    def test_functions(self):
        font(functions=[[]] * 12)
        font(functions=[[(word, 2147483647) for word in WORDS]])
        self.assert_fault("functions", font, functions=[[]] * 13)
        for step in (("odd", 0), ("push", 2147483648), ("push", -2147483649)):
            self.assert_fault("functions", font, functions=[[], [("push", 0), step]])

    def test_presets(self):
        font(presets=[-32768, 32767] * 16)
        self.assert_fault("presets", font, presets=[0] * 33)
        for preset in (-32769, 32768):
            self.assert_fault("presets", font, presets=[0, preset])

    def test_of_several_faults_the_first_place(self):
        faults = [
            ("unit", {"unit": 1}),
            ("glyphs", {"glyphs": []}),
            ("glyph 0", {"glyphs": [Glyph(-1, [], parts=[(0, 0, 0)])]}),
            ("parts", {"glyphs": [Glyph(0, [], parts=[(0, 0, 0)])]}),
            ("chars", {"chars": [(-1, 0)]}),
            ("lookups", {"lookups": [Lookup("odd", [])] * 21}),
            ("lookup 0", {"lookups": [Lookup("odd", [])]}),
            ("features", {"features": [("", [])]}),
            ("axes", {"axes": [(2, 1, 0)]}),
            ("regions", {"regions": [[(0, 0, 65)]]}),
            ("functions", {"functions": [[("odd", 0)]]}),
            ("presets", {"presets": [99999]}),
        ]
        for k, (first, fault) in enumerate(faults):
            for _, later in faults[k + 1:]:
                self.assert_fault(first, font, **{**later, **fault})

    def test_of_several_glyphs_and_lookups_the_first(self):
        wrong = Glyph(-1, [])
        self.assert_fault("glyph 1", font, glyphs=[Glyph(0, []), wrong, Glyph(0, []), wrong])
        self.assert_fault("glyph 3", font, glyphs=[Glyph(0, [], parts=[(0, 0, 0)]), Glyph(0, []), Glyph(0, []), wrong])
        self.assert_fault("lookup 1", font, lookups=[Lookup("single", []), Lookup("a", []), Lookup("b", [])])
        self.assert_fault("glyphs", font, glyphs=[wrong] * 61)


if __name__ == "__main__":
    unittest.main()
