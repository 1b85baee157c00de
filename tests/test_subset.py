"""Points 75 and 76, and the interface of fleuron/subset.py."""

import copy
import random
import unittest

from fleuron.closure import kept_glyphs
from fleuron.errors import TooLarge
from fleuron.fonts import Font, Glyph, Lookup, Rule, same_font
from fleuron.shaping import shape, shape_by_rules
from fleuron.subset import subset_font
from tests.whole_fonts import some_place, some_request, some_tables, whole_font


def font_of(lookups, features, *, many=10, marks=()):
    """Return a font whose codes 100 and on have the glyphs 0 and on."""
    glyphs = [Glyph(10 + k, [], mark=k in marks) for k in range(many)]
    return Font(100, glyphs, chars=[(100 + k, k) for k in range(many)], lookups=lookups, features=features)


def told(rule):
    """Return what a rule has that is not empty, in a dict."""
    return {name: value for name, value in vars(rule).items() if value}


def cut(lookup, *glyphs, marks=()):
    """Return what the rules of a lookup become if just glyph 0 and some others are kept, and their numbers.

    The lookup is asked for, but does nothing by itself.
    """
    other = Lookup("cursive", [Rule([[0]])])
    font = font_of([other, lookup], [("all", [1])], marks=marks)
    subset, numbers = subset_font(font, [100 + glyph for glyph in glyphs], ["all"])
    return [told(rule) for rule in subset.lookups[0].rules], numbers


class ExamplesTest(unittest.TestCase):
    def test_the_examples_of_the_interface(self):
        rules = [Rule([[1], [2]], out=[3])]
        glyphs = [Glyph(10, []), Glyph(10, []), Glyph(10, [], parts=[(4, 0, 0)]), Glyph(10, []), Glyph(10, []),
                  Glyph(10, [])]
        font = Font(100, glyphs, chars=[(97, 1), (98, 2)], lookups=[Lookup("ligature", rules)], features=[("liga", [0])])
        small, numbers = subset_font(font, [98], [])
        self.assertEqual(
            (numbers, small.glyphs[1].parts, small.chars, small.lookups), ([0, 2, 4], [(2, 0, 0)], [(98, 1)], [])
        )


class GlyphsTest(unittest.TestCase):
    def test_a_glyph_keeps_all_it_has(self):
        outline = [[(1, 2, True), (3, 4, False)]]
        glyph = Glyph(50, outline, parts=[(5, 1, 2), (3, -4, 6), (5, 0, 0)], anchors=[("mark", 2, 3, 4)], mark=True,
                      deltas=[(0, 1, 5, 6), (1, -1, 7, 0)], hint=[("push", 5)])
        glyphs = [Glyph(k, []) for k in range(4)] + [glyph, Glyph(9, outline)]
        font = Font(
            64, glyphs, chars=[(97, 4), (98, 1), (99, 4)], axes=[(0, 1, 2), (-5, 0, 5)],
            regions=[[(0, 64, 64), (0, 0, 0)], [(-1, 0, 1), (2, 3, 4)]], functions=[[("look", 1)], []], presets=[4, -5],
        )
        small, numbers = subset_font(font, [99], [])
        self.assertEqual((numbers, len(small.glyphs), small.chars), ([0, 3, 4, 5], 4, [(99, 2)]))
        wanted = vars(copy.deepcopy(glyph))
        wanted["parts"] = [(3, 1, 2), (1, -4, 6), (3, 0, 0)]
        self.assertEqual(vars(small.glyphs[2]), wanted)
        self.assertEqual(vars(small.glyphs[3]), vars(glyphs[5]))
        for name in ("unit", "axes", "regions", "functions", "presets"):
            self.assertEqual(getattr(small, name), getattr(font, name))
        self.assertEqual((small.lookups, small.features), ([], []))

    def test_a_request_of_nothing(self):
        font = font_of([Lookup("single", [Rule([[1]], out=[2])])], [("all", [0])])
        small, numbers = subset_font(font, [], [])
        self.assertEqual((numbers, small.chars, small.lookups, small.features), ([0], [], [], []))
        small, numbers = subset_font(font, [], ["all"])
        self.assertEqual((numbers, small.chars, small.features), ([0], [], [("all", [0])]))
        self.assertEqual(small.lookups[0].rules, [])

    def test_codes_and_names_that_the_font_does_not_have(self):
        font = font_of([], [("all", [])])
        small, numbers = subset_font(font, [103, 5, 101, 103, -1], ["none", "all", "all"])
        self.assertEqual((numbers, small.chars, small.features), ([0, 1, 3], [(101, 1), (103, 2)], [("all", [])]))

    def test_several_codes_of_one_glyph(self):
        font = Font(100, [Glyph(1, []), Glyph(2, [])], chars=[(5, 1), (6, 0), (7, 1), (8, 1)])
        self.assertEqual(subset_font(font, [8, 5, 6], [])[0].chars, [(5, 1), (6, 0), (8, 1)])


class LookupsTest(unittest.TestCase):
    def test_lookups_and_features_have_new_numbers(self):
        lookups = [Lookup("pair", [Rule([[0], [0]], extra=k)], ignore=k % 2 == 0) for k in range(5)]
        font = font_of(lookups, [("c", [1, 4]), ("a", [0]), ("b", [3, 4]), ("d", [])])
        small, _ = subset_font(font, [], ["b", "d", "c"])
        self.assertEqual(small.features, [("c", [0, 2]), ("b", [1, 2]), ("d", [])])
        self.assertEqual([(lookup.rules[0].extra, lookup.ignore) for lookup in small.lookups],
                         [(1, False), (3, False), (4, True)])

    def test_lookups_that_are_only_called(self):
        lookups = [
            Lookup("single", [Rule([[1]], out=[2])]), Lookup("single", [Rule([[1]], out=[3])]),
            Lookup("multiple", [Rule([[1]], out=[4, 5])]),
            Lookup("chain", [Rule([[1], [1]], calls=[(0, 2), (1, 0)])]),
        ]
        font = font_of(lookups, [("all", [3])])
        small, numbers = subset_font(font, [101], ["all"])
        self.assertEqual((numbers, small.features), ([0, 1, 2, 4, 5], [("all", [2])]))
        self.assertEqual([lookup.kind for lookup in small.lookups], ["single", "multiple", "chain"])
        self.assertEqual([told(lookup.rules[0]) for lookup in small.lookups], [
            {"inside": [[1]], "out": [2]}, {"inside": [[1]], "out": [3, 4]},
            {"inside": [[1], [1]], "calls": [(0, 1), (1, 0)]},
        ])
        # The rule does not stay, but what it calls is there.
        small, numbers = subset_font(font, [], ["all"])
        self.assertEqual((numbers, [(lookup.kind, lookup.rules) for lookup in small.lookups]),
                         ([0], [("single", []), ("multiple", []), ("chain", [])]))

    def test_sets_that_become_smaller_or_empty(self):
        lookup = Lookup("pair", [Rule([[1, 2, 3], [0, 4]], extra=7), Rule([[1, 3], [0]]), Rule([[2], [1, 3]])])
        self.assertEqual(cut(lookup, 2), ([{"inside": [[1], [0]], "extra": 7}], [0, 2]))
        self.assertEqual(cut(lookup, 3, 4), ([{"inside": [[1], [0, 2]], "extra": 7}, {"inside": [[1], [0]]}], [0, 3, 4]))
        lookup = Lookup("chain", [Rule([[1, 2], [2, 3]], back=[[4, 5], [2]], ahead=[[2], [5, 6]])])
        self.assertEqual(cut(lookup, 2, 5), ([{"inside": [[1], [1]], "back": [[2], [1]], "ahead": [[1], [2]]}], [0, 2, 5]))
        self.assertEqual(cut(lookup, 2), ([], [0, 2]))
        self.assertEqual(cut(lookup, 2, 4), ([], [0, 2, 4]))
        self.assertEqual(cut(lookup, 2, 6), ([], [0, 2, 6]))
        self.assertEqual(cut(lookup, 1, 5), ([], [0, 1, 5]))
        for kind, sets in (("cursive", [[1, 2]]), ("marks", [[0], [1, 2]])):
            self.assertEqual(cut(Lookup(kind, [Rule(sets), Rule(sets[:-1] + [[5]])]), 2),
                             ([{"inside": sets[:-1] + [[1]]}], [0, 2]))

    def test_single_and_reverse(self):
        for kind in ("single", "reverse"):
            # What is a mark is not seen, so that its glyph of out does not come.
            lookup = Lookup(kind, [Rule([[1, 2, 3, 4]], out=[5, 6, 7, 0])], ignore=True)
            self.assertEqual(cut(lookup, 2, 3, marks=[2]), ([{"inside": [[2]], "out": [3]}], [0, 2, 3, 7]))
            self.assertEqual(cut(lookup, 1, 4, marks=[1]), ([{"inside": [[2]], "out": [0]}], [0, 1, 4]))
            self.assertEqual(cut(lookup, 2, marks=[2]), ([], [0, 2]))
            # A glyph of out that is kept for another reason.
            self.assertEqual(cut(lookup, 1, 2, 5, marks=[1, 2]), ([{"inside": [[1]], "out": [3]}], [0, 1, 2, 5]))
        lookup = Lookup("reverse", [Rule([[1]], back=[[2, 3]], ahead=[[4, 5]], out=[1])])
        self.assertEqual(cut(lookup, 1, 3, 4),
                         ([{"inside": [[1]], "back": [[2]], "ahead": [[3]], "out": [1]}], [0, 1, 3, 4]))
        self.assertEqual(cut(lookup, 1, 3), ([], [0, 1, 3]))
        self.assertEqual(cut(lookup, 1, 4), ([], [0, 1, 4]))

    def test_multiple_and_ligature(self):
        lookup = Lookup("multiple", [Rule([[1, 2]], out=[5, 0, 5]), Rule([[3]], out=[6]), Rule([[4]], out=[])], ignore=True)
        self.assertEqual(cut(lookup, 1), ([{"inside": [[1]], "out": [2, 0, 2]}], [0, 1, 5]))
        self.assertEqual(cut(lookup, 4, marks=[4]), ([{"inside": [[1]]}], [0, 4]))
        self.assertEqual(cut(lookup, 3, marks=[3]), ([], [0, 3]))
        self.assertEqual(cut(lookup, 3, 6, marks=[3]), ([{"inside": [[1]], "out": [2]}], [0, 3, 6]))
        # One of the glyphs of out is kept, the other one is not.
        self.assertEqual(cut(lookup, 1, marks=[1]), ([], [0, 1]))
        lookup = Lookup("ligature", [Rule([[1, 2], [0, 3]], out=[5]), Rule([[0], [4]], out=[6])], ignore=True)
        self.assertEqual(cut(lookup, 2), ([{"inside": [[1], [0]], "out": [2]}], [0, 2, 5]))
        self.assertEqual(cut(lookup, 4, marks=[4]), ([], [0, 4]))
        self.assertEqual(cut(lookup, 4, 6, marks=[4]), ([{"inside": [[0], [1]], "out": [2]}], [0, 4, 6]))

    def test_rules_that_are_left_out(self):
        rules = [Rule([[1]], out=[2]), Rule([[3]], out=[4]), Rule([[1, 5]], out=[6, 7])]
        self.assertEqual(cut(Lookup("single", rules), 5, 1), (
            [{"inside": [[1]], "out": [2]}, {"inside": [[3]], "out": [4]}], [0, 1, 2, 5, 7]))

    def test_nothing_is_modified_or_shared(self):
        source = random.Random(76)
        font = whole_font(source)
        codes, names = some_request(source, font)
        before = copy.deepcopy((font, codes, names))
        small, numbers = subset_font(font, codes, names)
        small.unit = 99
        small.presets.append(1)
        small.functions.append([])
        small.glyphs[0].outline.append([])
        small.glyphs[0].hint.append(("look", 1))
        numbers.append(7)
        self.assertTrue(same_font(font, before[0]))
        self.assertEqual((codes, names), before[1:])


class ManyFontsTest(unittest.TestCase):
    def test_runs_of_the_subset(self):
        source = random.Random(76)
        many = 0
        for _ in range(120):
            font = whole_font(source)
            codes, names = some_request(source, font)
            small, numbers = subset_font(font, codes, names)
            self.assertEqual(numbers, kept_glyphs(font, codes, names))
            self.assertEqual(kept_glyphs(small, codes, names), list(range(len(numbers))))
            place, tables = some_place(source, font), some_tables(source)
            text = [source.choice(codes) for _ in range(12)] if codes else []
            for way in (shape, shape_by_rules):
                try:
                    run = way(font, text, names, place, **tables)
                except TooLarge as error:
                    self.assertEqual(error.limit, "states")
                    continue
                cut_run = way(small, text, names, place, **tables)
                self.assertEqual([(numbers[item[0]],) + item[1:] for item in cut_run], run)
                many += len(run)
        self.assertGreater(many, 1000)

    def test_a_request_of_everything(self):
        source = random.Random(77)
        for _ in range(20):
            font = whole_font(source)
            more = Font(font.unit, font.glyphs, chars=[(k, k) for k in range(len(font.glyphs))], lookups=font.lookups,
                        features=[("all", list(range(len(font.lookups))))], axes=font.axes, regions=font.regions,
                        functions=font.functions, presets=font.presets)
            small, numbers = subset_font(more, list(range(len(font.glyphs))), ["all"])
            self.assertTrue(same_font(small, more))
            self.assertEqual(numbers, list(range(len(font.glyphs))))


if __name__ == "__main__":
    unittest.main()
