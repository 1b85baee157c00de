"""Points 71 to 74, and the interface of fleuron/closure.py."""

import copy
import random
import unittest

from fleuron.closure import accepts_reasons, kept_glyphs, ranks, reasons
from fleuron.fonts import Font, Glyph, Lookup, Rule, same_font
from fleuron.shaping import shape_by_rules
from tests.reasons_by_points import accepted_by_points, all_reasons, bases, depth_by_points, ranks_by_points
from tests.whole_fonts import some_place, some_request, some_tables, whole_font


def font_of(*lookups, many=10, features=None, marks=(), parts=None):
    """Return a font whose codes 100 and on have the glyphs 0 and on, with a feature `all` of all lookups."""
    glyphs = [Glyph(10, [], mark=k in marks, parts=[(n, 0, 0) for n in (parts or {}).get(k, ())]) for k in range(many)]
    if features is None:
        features = [("all", list(range(len(lookups))))]
    return Font(100, glyphs, chars=[(100 + k, k) for k in range(many)], lookups=lookups, features=features)


def kept(font, *glyphs, names=("all",)):
    """Return the kept glyphs, but for glyph 0, for the codes of glyphs."""
    found = kept_glyphs(font, [100 + glyph for glyph in glyphs], list(names))
    return found[1:] if found[0] == 0 else None


def example():
    """Return the font of the interface's example."""
    rules = [Rule([[1], [2]], out=[3])]
    glyphs = [Glyph(10, []), Glyph(10, []), Glyph(10, [], parts=[(4, 0, 0)]), Glyph(10, []), Glyph(10, []), Glyph(10, [])]
    return Font(100, glyphs, chars=[(97, 1), (98, 2)], lookups=[Lookup("ligature", rules)], features=[("liga", [0])])


class ExamplesTest(unittest.TestCase):
    def test_the_examples_of_the_interface(self):
        font = example()
        self.assertEqual(
            (kept_glyphs(font, [97, 98], ["liga"]), ranks(font, [97, 98], ["liga"]), kept_glyphs(font, [97], ["liga"])),
            ([0, 1, 2, 3, 4], [0, 0, 0, 1, 1], [0, 1]),
        )
        self.assertEqual(reasons(font, [97, 98], ["liga"], 4), [(2, ("start",)), (4, ("part", 2))])
        row = [(1, ("start",)), (2, ("start",)), (3, ("rule", 0, 0, [1, 2]))]
        self.assertIs(accepts_reasons(font, [97, 98], ["liga"], row), True)


class KeptTest(unittest.TestCase):
    def test_a_request_of_nothing(self):
        font = font_of(Lookup("single", [Rule([[0]], out=[3])]), parts={0: [5]})
        self.assertEqual((kept_glyphs(font, [], []), ranks(font, [], [])), ([0, 5], [0, 1]))
        self.assertEqual((kept_glyphs(font, [], ["all"]), ranks(font, [], ["all"])), ([0, 3, 5], [0, 1, 1]))

    def test_codes_and_names(self):
        font = font_of(Lookup("single", [Rule([[2]], out=[3])]))
        for codes, names, expected in (
            ([102], ["all"], [0, 2, 3]), ([102, 102, 5, -1, 102], ["all", "all", "none", ""], [0, 2, 3]),
            ([102], ["none"], [0, 2]), ([5, 1114112], ["all"], [0]), ([104, 101], [], [0, 1, 4]),
        ):
            self.assertEqual(kept_glyphs(font, codes, names), expected)

    def test_parts_of_parts(self):
        font = font_of(parts={2: [4, 5], 4: [7], 7: [8], 6: [9]})
        self.assertEqual(kept(font, 2), [2, 4, 5, 7, 8])
        self.assertEqual(ranks(font, [102], []), [0, 0, 1, 1, 2, 3])

    def test_single(self):
        font = font_of(Lookup("single", [Rule([[1, 2]], out=[4, 5])]), Lookup("single", [Rule([[5]], out=[6])]))
        self.assertEqual((kept(font, 1), kept(font, 2), kept(font, 3)), ([1, 4], [2, 5, 6], [3]))

    def test_multiple(self):
        font = font_of(Lookup("multiple", [Rule([[1, 2]], out=[4, 5, 4]), Rule([[3]], out=[])]))
        self.assertEqual((kept(font, 1), kept(font, 2), kept(font, 3)), ([1, 4, 5], [2, 4, 5], [3]))

    def test_earlier_rules_of_the_kinds_single_and_multiple(self):
        for kind in ("single", "multiple"):
            font = font_of(Lookup(kind, [Rule([[1]], out=[4]), Rule([[1]], out=[5]), Rule([[2]], out=[6])]))
            self.assertEqual((kept(font, 1), kept(font, 2)), ([1, 4], [2, 6]))
        font = font_of(Lookup("multiple", [Rule([[1]], out=[]), Rule([[1, 2]], out=[5])]))
        self.assertEqual((kept(font, 1), kept(font, 2)), ([1], [2, 5]))

    def test_earlier_rules_of_other_kinds(self):
        font = font_of(Lookup("ligature", [Rule([[1], [2]], out=[4]), Rule([[1], [2]], out=[5])]))
        self.assertEqual(kept(font, 1, 2), [1, 2, 4, 5])
        font = font_of(Lookup("reverse", [Rule([[1]], out=[4]), Rule([[1]], out=[5])]))
        self.assertEqual(kept(font, 1), [1, 4, 5])

    def test_ligature(self):
        font = font_of(Lookup("ligature", [Rule([[1], [2, 3], [3]], out=[5])]))
        self.assertEqual((kept(font, 1, 2), kept(font, 1, 3), kept(font, 2, 3)), ([1, 2], [1, 3, 5], [2, 3]))

    def test_reverse(self):
        font = font_of(Lookup("reverse", [Rule([[1, 2]], back=[[3], [4]], ahead=[[5]], out=[6, 7])]))
        self.assertEqual(kept(font, 1, 3, 4, 5), [1, 3, 4, 5, 6])
        self.assertEqual(kept(font, 2, 3, 4, 5), [2, 3, 4, 5, 7])
        for left in ([3, 4, 5], [1, 4, 5], [1, 3, 5], [1, 3, 4]):
            self.assertEqual(kept(font, *left), left)

    def test_chain(self):
        called = [Lookup("single", [Rule([[1]], out=[6])]), Lookup("multiple", [Rule([[2, 3]], out=[7, 8])])]
        chain = Lookup("chain", [Rule([[1], [2, 9]], back=[[4]], ahead=[[5]], calls=[(0, 0), (1, 1)])])
        font = font_of(*called, chain, features=[("all", [2])])
        self.assertEqual(kept(font, 1, 2, 4, 5), [1, 2, 4, 5, 6, 7, 8])
        self.assertEqual(kept(font, 1, 9, 4, 5), [1, 4, 5, 6, 9])
        for left in ([2, 4, 5], [1, 4, 5], [1, 2, 5], [1, 2, 4], [1, 2, 3]):
            self.assertEqual(kept(font, *left), left)

    def test_a_chain_without_calls(self):
        self.assertEqual(kept(font_of(Lookup("chain", [Rule([[1]])])), 1), [1])

    def test_the_first_rule_of_a_called_lookup(self):
        called = Lookup("single", [Rule([[1]], out=[6]), Rule([[1, 2]], out=[7, 8])])
        font = font_of(called, Lookup("chain", [Rule([[1, 2]], calls=[(0, 0)])]), features=[("all", [1])])
        self.assertEqual((kept(font, 1), kept(font, 2)), ([1, 6], [2, 8]))

    def test_lookups_that_are_only_called(self):
        called = Lookup("single", [Rule([[1, 2]], out=[6, 7])])
        font = font_of(called, Lookup("chain", [Rule([[1]], calls=[(0, 0)])]), features=[("all", [1]), ("more", [0])])
        self.assertEqual(kept(font, 1, 2), [1, 2, 6])
        self.assertEqual(kept(font, 1, 2, names=["more"]), [1, 2, 6, 7])
        self.assertEqual(kept(font, 1, 2, names=[]), [1, 2])

    def test_glyphs_that_the_lookup_does_not_see(self):
        for kind, rule in (
            ("single", Rule([[1]], out=[6])), ("multiple", Rule([[1]], out=[6])), ("ligature", Rule([[2], [1]], out=[6])),
            ("reverse", Rule([[2]], back=[[1]], out=[6])), ("reverse", Rule([[2]], ahead=[[1]], out=[6])),
        ):
            for ignore, expected in ((True, [1, 2]), (False, [1, 2, 6])):
                font = font_of(Lookup(kind, [rule], ignore=ignore), marks=[1])
                self.assertEqual(kept(font, 1, 2), expected)

    def test_a_set_with_a_glyph_that_is_not_seen(self):
        font = font_of(Lookup("single", [Rule([[1, 2]], out=[6, 7])], ignore=True), marks=[1])
        self.assertEqual(kept(font, 1, 2), [1, 2, 7])

    def test_a_chain_whose_called_lookup_ignores_the_glyph(self):
        for ignore, called_ignore, expected in (
            (False, False, [1, 6]), (False, True, [1]), (True, False, [1]), (True, True, [1]),
        ):
            called = Lookup("single", [Rule([[1]], out=[6])], ignore=called_ignore)
            chain = Lookup("chain", [Rule([[1]], calls=[(0, 0)])], ignore=ignore)
            self.assertEqual(kept(font_of(called, chain, features=[("all", [1])], marks=[1]), 1), expected)

    def test_kinds_that_do_not_replace(self):
        lookups = [Lookup("pair", [Rule([[1], [2]], extra=5)]), Lookup("cursive", [Rule([[1]])]),
                   Lookup("marks", [Rule([[1], [2]])])]
        self.assertEqual(kept(font_of(*lookups), 1, 2), [1, 2])

    def test_ranks(self):
        font = font_of(
            Lookup("ligature", [Rule([[5], [2]], out=[6])]), Lookup("single", [Rule([[1]], out=[3])]),
            Lookup("single", [Rule([[3]], out=[5])]), Lookup("single", [Rule([[2]], out=[5])]), parts={6: [7]},
        )
        self.assertEqual((kept(font, 1, 2), ranks(font, [101, 102], ["all"])), ([1, 2, 3, 5, 6, 7], [0, 0, 0, 1, 1, 2, 3]))
        self.assertEqual((kept(font, 1), ranks(font, [101], ["all"])), ([1, 3, 5], [0, 0, 1, 2]))

    def test_glyph_0_comes_of_the_empty_list(self):
        font = font_of(Lookup("single", [Rule([[1]], out=[0])]), Lookup("single", [Rule([[0]], out=[4])]))
        self.assertEqual(ranks(font, [101], ["all"]), [0, 0, 1])


class ReasonsTest(unittest.TestCase):
    def test_glyphs_that_are_not_kept(self):
        for glyph in (5, 6, -1, 99):
            self.assertIsNone(reasons(example(), [97, 98], ["liga"], glyph))
        self.assertIsNone(reasons(example(), [97], ["liga"], 3))

    def test_each_form(self):
        called = Lookup("single", [Rule([[1]], out=[6])])
        chain = Lookup("chain", [Rule([[2], [1]], back=[[3]], calls=[(1, 0)])])
        font = font_of(called, chain, features=[("all", [1])], parts={6: [7]})
        codes = [101, 102, 103, 104]
        start = [(1, ("start",)), (2, ("start",)), (3, ("start",))]
        self.assertEqual(reasons(font, codes, ["all"], 0), [(0, ("start",))])
        self.assertEqual(reasons(font, codes, ["all"], 6), start + [(6, ("call", 1, 0, [2, 1, 3], 0))])
        self.assertEqual(
            reasons(font, codes, ["all"], 7), start + [(6, ("call", 1, 0, [2, 1, 3], 0)), (7, ("part", 6))]
        )

    def test_the_lists_are_new(self):
        row = reasons(example(), [97, 98], ["liga"], 3)
        row[-1][1][3].append(9)
        self.assertEqual(reasons(example(), [97, 98], ["liga"], 3)[-1], (3, ("rule", 0, 0, [1, 2])))


class AcceptsReasonsTest(unittest.TestCase):
    START = [(1, ("start",)), (2, ("start",))]

    def assert_accepted(self, row, expected, codes=(97, 98), names=("liga",)):
        self.assertIs(accepts_reasons(example(), list(codes), list(names), row), expected, row)

    def test_short_rows(self):
        self.assert_accepted([], True)
        self.assert_accepted(self.START, True)
        self.assert_accepted(self.START + [(3, ("rule", 0, 0, [1, 2]))], True)
        self.assert_accepted(self.START[:1] + [(3, ("rule", 0, 0, [1, 2]))], False)
        self.assert_accepted(self.START[1:] + [(3, ("rule", 0, 0, [1, 2]))], False)
        self.assert_accepted([(3, ("rule", 0, 0, [1, 2]))], False)
        self.assert_accepted([(4, ("part", 2))], False)

    def test_another_order(self):
        self.assert_accepted(self.START[::-1] + [(3, ("rule", 0, 0, [1, 2]))], True)
        self.assert_accepted([self.START[0], (3, ("rule", 0, 0, [1, 2])), self.START[1]], False)
        self.assert_accepted([(4, ("part", 2)), self.START[1]], False)
        self.assert_accepted([self.START[1], (4, ("part", 2))], True)

    def test_a_glyph_twice(self):
        self.assert_accepted(self.START + self.START[:1], False)
        self.assert_accepted(self.START + [(4, ("part", 2)), (4, ("part", 2))], False)

    def test_start(self):
        for glyph, expected in ((0, True), (1, True), (2, True), (3, False), (4, False), (5, False), (-1, False), (6, False)):
            self.assert_accepted([(glyph, ("start",))], expected)
        self.assert_accepted([(2, ("start",))], False, codes=[97])

    def test_parts(self):
        for glyph, other, expected in ((4, 2, True), (4, 1, False), (3, 2, False), (4, 6, False), (4, -4, False), (4, -1, False)):
            self.assert_accepted(self.START + [(glyph, ("part", other))], expected)
        # Glyph -4 would be glyph 2 if numbers went backwards.
        self.assert_accepted([(2, ("start",)), (-4, ("start",)), (4, ("part", -4))], False)

    def test_rules(self):
        for reason in (
            ("rule", 0, 0, [1]), ("rule", 0, 0, [1, 2, 2]), ("rule", 0, 0, []), ("rule", 0, 0, [2, 1]),
            ("rule", 0, 0, [1, 1]), ("rule", 0, 0, [2, 2]), ("rule", 1, 0, [1, 2]), ("rule", -1, 0, [1, 2]),
            ("rule", 0, 1, [1, 2]), ("rule", 0, -1, [1, 2]), ("call", 0, 0, [1, 2], 0), ("rule", 0, 0, [1, -4]),
        ):
            self.assert_accepted(self.START + [(3, reason)], False)
        for glyph in (0, 4, 5, -1):
            self.assert_accepted(self.START + [(glyph, ("rule", 0, 0, [1, 2]))], False)
        self.assert_accepted(self.START + [(3, ("rule", 0, 0, [1, 2]))], False, names=["none"])

    def test_rules_of_each_kind(self):
        def told(lookup, row, glyph=6, marks=()):
            font = font_of(lookup, marks=marks)
            before = [(k, ("start",)) for k in (1, 2, 3)]
            return accepts_reasons(font, [101, 102, 103], ["all"], before + [(glyph, ("rule", 0, len(lookup.rules) - 1, row))])

        single = Lookup("single", [Rule([[1]], out=[5]), Rule([[1, 2]], out=[6, 7])])
        self.assertEqual((told(single, [1]), told(single, [2]), told(single, [2], 7)), (False, False, True))
        multiple = Lookup("multiple", [Rule([[1]], out=[5]), Rule([[1, 2]], out=[6, 7])])
        self.assertEqual((told(multiple, [1]), told(multiple, [2]), told(multiple, [2], 7)), (False, True, True))
        reverse = Lookup("reverse", [Rule([[1]], out=[5]), Rule([[1, 2]], back=[[3]], ahead=[[2]], out=[6, 7])])
        self.assertEqual((told(reverse, [1, 3, 2]), told(reverse, [1, 2, 3]), told(reverse, [1, 3])), (True, False, False))
        self.assertEqual((told(reverse, [1, 3, 2], 7), told(reverse, [2, 3, 2], 7)), (False, True))
        for ignore, expected in ((True, False), (False, True)):
            lookup = Lookup("reverse", [Rule([[1]], back=[[3]], out=[6])], ignore=ignore)
            self.assertEqual(told(lookup, [1, 3], marks=[3]), expected)
            self.assertEqual(told(lookup, [1, 3], marks=[1]), expected)
        for kind, row in (("pair", [1, 2]), ("marks", [1, 2]), ("cursive", [1])):
            self.assertFalse(told(Lookup(kind, [Rule([[glyph] for glyph in row])]), row))
        self.assertFalse(told(Lookup("chain", [Rule([[1]])]), [1]))

    def test_calls(self):
        called = Lookup("single", [Rule([[1]], out=[6]), Rule([[1, 2]], out=[7, 8])])
        unseeing = Lookup("multiple", [Rule([[1, 4]], out=[9, 5])], ignore=True)
        chain = Lookup("chain", [Rule([[3]]), Rule([[1, 4], [2]], back=[[3]], calls=[(0, 1), (1, 0)])])
        font = font_of(called, unseeing, chain, features=[("all", [2])], marks=[4])
        before = [(k, ("start",)) for k in (1, 2, 3, 4)]
        codes = [101, 102, 103, 104]
        for glyph, reason, expected in (
            (9, ("call", 2, 1, [1, 2, 3], 0), True), (5, ("call", 2, 1, [1, 2, 3], 0), True),
            (8, ("call", 2, 1, [1, 2, 3], 1), True), (8, ("call", 2, 1, [1, 2, 3], 0), False),
            (9, ("call", 2, 1, [1, 2, 3], 1), False), (7, ("call", 2, 1, [1, 2, 3], 1), False),
            (9, ("call", 2, 1, [1, 2, 3], 2), False), (8, ("call", 2, 1, [1, 2, 3], -1), False),
            (9, ("call", 2, 1, [4, 2, 3], 0), False), (8, ("call", 2, 1, [4, 2, 3], 1), True),
            (9, ("call", 2, 1, [1, 2], 0), False), (9, ("call", 2, 1, [1, 3, 2], 0), False),
            (9, ("call", 2, 0, [3], 0), False), (9, ("rule", 2, 1, [1, 2, 3]), False),
            (9, ("call", 3, 1, [1, 2, 3], 0), False), (9, ("call", -1, 1, [1, 2, 3], 0), False),
            (9, ("call", 2, 2, [1, 2, 3], 0), False), (9, ("call", 2, -1, [1, 2, 3], 0), False),
            # The called lookups are not in the plan.
            (6, ("rule", 0, 0, [1]), False), (9, ("rule", 1, 0, [1]), False), (6, ("call", 0, 0, [1], 0), False),
        ):
            self.assertIs(accepts_reasons(font, codes, ["all"], before + [(glyph, reason)]), expected, reason)

    def test_nothing_is_modified(self):
        font, row = example(), self.START + [(3, ("rule", 0, 0, [1, 2]))]
        codes, names = [97, 98], ["liga"]
        before = copy.deepcopy((row, codes, names))
        accepts_reasons(font, codes, names, row)
        reasons(font, codes, names, 3)
        ranks(font, codes, names)
        self.assertEqual((row, codes, names), before)
        self.assertTrue(same_font(font, example()))


class ManyFontsTest(unittest.TestCase):
    def test_kept_glyphs_ranks_and_reasons(self):
        source = random.Random(72)
        deepest = 0
        for _ in range(150):
            font = whole_font(source)
            codes, names = some_request(source, font)
            expected = ranks_by_points(font, codes, names)
            self.assertEqual(kept_glyphs(font, codes, names), sorted(expected))
            self.assertEqual(ranks(font, codes, names), [expected[glyph] for glyph in sorted(expected)])
            for glyph in range(len(font.glyphs)):
                row = reasons(font, codes, names, glyph)
                if glyph not in expected:
                    self.assertIsNone(row)
                    continue
                self.assertTrue(accepted_by_points(font, codes, names, row))
                self.assertTrue(accepts_reasons(font, codes, names, row))
                self.assertEqual((row[-1][0], depth_by_points(row)), (glyph, expected[glyph]))
                for at, (other, _) in enumerate(row[:-1]):
                    self.assertTrue(any(other in bases(reason) for _, reason in row[at + 1:]))
                deepest = max(deepest, expected[glyph])
        self.assertGreater(deepest, 3)

    def test_rows_that_are_changed(self):
        source = random.Random(74)
        told = {True: 0, False: 0}
        for _ in range(120):
            font = whole_font(source)
            codes, names = some_request(source, font)
            for glyph in kept_glyphs(font, codes, names):
                row = self.changed(source, reasons(font, codes, names, glyph), len(font.glyphs))
                expected = accepted_by_points(font, codes, names, row)
                self.assertIs(accepts_reasons(font, codes, names, row), expected)
                told[expected] += 1
        self.assertGreater(min(told.values()), 50)

    def changed(self, source, row, many):
        """Return a row of reasons with a random change."""
        row = list(row)
        at = source.randrange(len(row))
        glyph, reason = row[at]
        kind = source.randrange(5)
        if kind == 0:
            row = row[:at] + row[at + 1:]
        elif kind == 1:
            source.shuffle(row)
        elif kind == 2:
            row[at] = (source.randrange(-1, many + 1), reason)
        elif kind == 3 and len(reason) > 3:
            glyphs = list(reason[3])
            glyphs[source.randrange(len(glyphs))] = source.randrange(-1, many + 1)
            row[at] = (glyph, reason[:3] + (glyphs,) + reason[4:])
        elif len(reason) > 1:
            part = source.choice([k for k in range(1, len(reason)) if k != 3])
            number = reason[part] + source.choice((-1, 1))
            row[at] = (glyph, reason[:part] + (number,) + reason[part + 1:])
        return row

    def test_rows_of_reasons_whoever_made_them(self):
        source = random.Random(75)
        for _ in range(60):
            font = whole_font(source)
            codes, names = some_request(source, font)
            known = [(glyph, tuple(list(part) if isinstance(part, tuple) else part for part in reason))
                     for glyph, reason in sorted(all_reasons(font, codes, names, range(len(font.glyphs))), key=str)]
            keeps = kept_glyphs(font, codes, names)
            for _ in range(20):
                row = source.sample(known, min(len(known), 6))
                if accepts_reasons(font, codes, names, row):
                    self.assertTrue(all(glyph in keeps for glyph, _ in row))

    def test_runs_have_only_kept_glyphs(self):
        source = random.Random(73)
        many = 0
        for _ in range(120):
            font = whole_font(source)
            codes, names = some_request(source, font)
            keeps = kept_glyphs(font, codes, names)
            text = [source.choice(codes) for _ in range(12)] if codes else []
            run = shape_by_rules(font, text, names, some_place(source, font), **some_tables(source))
            self.assertEqual([item[0] for item in run if item[0] not in keeps], [])
            many += len(run)
        self.assertGreater(many, 500)


if __name__ == "__main__":
    unittest.main()
