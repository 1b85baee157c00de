"""Points 43 to 47, and the interface of fleuron/vary.py."""

import copy
import random
import unittest
from fractions import Fraction
from math import floor

from fleuron.errors import FleuronError, InvalidPlace, OutOfRange, UnknownGlyph
from fleuron.fonts import Font, Glyph, Lookup, Rule, same_font
from fleuron.vary import at_place, factor, glyph_at, shares

AXIS = (100, 400, 900)


def pair(fraction):
    """Return a Fraction as the tuple of its numerator and denominator."""
    return (fraction.numerator, fraction.denominator)


def share_by_definition(axis, at):
    """Return the share of an axis as a Fraction."""
    least, normal, greatest = axis
    if at == normal:
        return Fraction(0)
    return Fraction(at - normal, greatest - normal) if at > normal else Fraction(at - normal, normal - least)


def factor_by_definition(tent, share):
    """Return the factor of a tent as a Fraction."""
    start, peak, end = tent
    s = share * 64
    if peak == 0 or s == peak:
        return Fraction(1)
    if s <= start or s >= end:
        return Fraction(0)
    return Fraction(s - start) / (peak - start) if s < peak else Fraction(end - s) / (end - peak)


def changes_by_definition(font, glyph, place):
    """Return for each point of the deltas what is added to its x and its y."""
    parts = [share_by_definition(axis, at) for axis, at in zip(font.axes, place)]
    sums = {}
    for region, point, x, y in glyph.deltas:
        product = Fraction(1)
        for tent, share in zip(font.regions[region], parts):
            product *= factor_by_definition(tent, share)
        old = sums.get(point, (0, 0))
        sums[point] = (old[0] + x * product, old[1] + y * product)
    return {point: tuple(floor(n + Fraction(1, 2)) for n in both) for point, both in sums.items()}


def tent_of(source):
    """Return a random tent."""
    while True:
        tent = tuple(sorted(source.choice((-64, -40, -20, 0, 0, 10, 32, 64)) for _ in range(3)))
        if tent[1] == 0 or tent[0] >= 0 or tent[2] <= 0:
            return tent


def some_font(source):
    """Return a font with axes, regions and deltas."""
    axes = [tuple(sorted(source.randint(-50, 50) for _ in range(3))) for _ in range(source.randrange(4))]
    regions = [[tent_of(source) for _ in axes] for _ in range(3)]
    glyphs = []
    for _ in range(3):
        outline = [[(source.randint(-99, 99), source.randint(-99, 99), source.random() < 0.5) for _ in range(many)]
                   for many in (3, 2, 4)]
        deltas = [(source.randrange(3), source.randint(-1, 8), source.randint(-50, 50), source.randint(-50, 50))
                  for _ in range(12)]
        glyphs.append(Glyph(8000, outline, deltas=deltas))
    return Font(100, glyphs, axes=axes, regions=regions)


def one_glyph(deltas, *, advance=500, x=0, y=0, number=0):
    """Return a font with an axis from 0 to 64, whose last glyph has one contour and the deltas."""
    outline = [[(0, 0, True), (x, y, False)]]
    glyphs = [Glyph(3, []) for _ in range(number)] + [Glyph(advance, outline, deltas=deltas)]
    return Font(100, glyphs, axes=[(0, 0, 64)], regions=[[(0, 64, 64)], [(0, 64, 64)], [(-64, 0, 64)]])


class ExamplesTest(unittest.TestCase):
    def test_the_examples_of_the_interface(self):
        line = [[(0, 0, True), (8, 0, True)]]
        glyph = Glyph(500, line, deltas=[(0, 1, 10, 3), (0, -1, 100, 0)])
        font = Font(1000, [glyph], axes=[(100, 400, 900)], regions=[[(0, 64, 64)]])
        self.assertEqual(
            (shares(font, [650]), factor([(0, 64, 64)], [(1, 2)]), shares(font, [100])), ([(1, 2)], (1, 2), [(-1, 1)])
        )
        instance = at_place(font, [650])
        self.assertEqual(
            (instance.glyphs[0].outline, instance.glyphs[0].advance), ([[(0, 0, True), (13, 2, True)]], 550)
        )
        self.assertRaises(InvalidPlace, at_place, font, [950])


class SharesTest(unittest.TestCase):
    def font(self, *axes):
        """Return a font with the axes."""
        return Font(100, [Glyph(5, [])], axes=axes)

    def test_shares(self):
        cases = {100: (-1, 1), 250: (-1, 2), 399: (-1, 300), 400: (0, 1), 401: (1, 500), 600: (2, 5), 900: (1, 1)}
        for at, share in cases.items():
            self.assertEqual(shares(self.font(AXIS), [at]), [share])

    def test_several_axes(self):
        font = self.font(AXIS, (-10, 0, 30), (5, 5, 5))
        self.assertEqual(shares(font, [150, 20, 5]), [(-5, 6), (2, 3), (0, 1)])
        self.assertEqual(shares(self.font(), []), [])

    def test_a_normal_number_at_an_end_of_its_axis(self):
        self.assertEqual([shares(self.font((0, 0, 8)), [at]) for at in (0, 2, 8)], [[(0, 1)], [(1, 4)], [(1, 1)]])
        self.assertEqual([shares(self.font((0, 8, 8)), [at]) for at in (0, 2, 8)], [[(-1, 1)], [(-3, 4)], [(0, 1)]])

    def test_lists_that_are_no_places(self):
        font = self.font(AXIS, (-10, 0, 30))
        for place in ([], [400], [400, 0, 0], [99, 0], [901, 0], [400, -11], [400, 31], [0, 400]):
            self.assertRaises(InvalidPlace, shares, font, place)
            self.assertRaises(InvalidPlace, at_place, font, place)
            self.assertRaises(InvalidPlace, glyph_at, font, 0, place)
        for place in ([100, -10], [900, 30], [100, 30]):
            self.assertEqual(len(shares(font, place)), 2)
        self.assertRaises(InvalidPlace, shares, self.font(), [0])
        self.assertRaises(InvalidPlace, shares, self.font((5, 5, 5)), [4])
        self.assertEqual(InvalidPlace.__bases__, (FleuronError,))


class FactorTest(unittest.TestCase):
    def test_one_tent(self):
        cases = [
            ((0, 32, 64), (0, 1), (0, 1)), ((0, 32, 64), (1, 4), (1, 2)), ((0, 32, 64), (1, 2), (1, 1)),
            ((0, 32, 64), (5, 8), (3, 4)), ((0, 32, 64), (1, 1), (0, 1)), ((0, 32, 64), (-1, 2), (0, 1)),
            ((10, 20, 60), (1, 4), (3, 5)), ((10, 20, 60), (1, 3), (29, 30)), ((10, 20, 60), (15, 16), (0, 1)),
            ((-64, -32, -16), (-3, 4), (1, 2)), ((-64, -32, -16), (-3, 8), (1, 2)), ((-64, -32, -16), (1, 2), (0, 1)),
        ]
        for tent, share, expected in cases:
            self.assertEqual(factor([tent], [share]), expected)

    def test_a_peak_of_0(self):
        for tent in ((-64, 0, 64), (0, 0, 0), (-1, 0, 1), (0, 0, 64), (-64, 0, 0)):
            for share in ((-1, 1), (-1, 3), (0, 1), (1, 64), (1, 1)):
                self.assertEqual(factor([tent], [share]), (1, 1))

    def test_equal_numbers(self):
        cases = [
            ((32, 32, 64), (1, 2), (1, 1)), ((32, 32, 64), (31, 64), (0, 1)), ((32, 32, 64), (3, 4), (1, 2)),
            ((0, 64, 64), (1, 1), (1, 1)), ((0, 64, 64), (3, 4), (3, 4)), ((0, 32, 32), (33, 64), (0, 1)),
            ((16, 16, 16), (1, 4), (1, 1)), ((16, 16, 16), (17, 64), (0, 1)), ((16, 16, 16), (15, 64), (0, 1)),
            ((-64, -64, 0), (-1, 1), (1, 1)), ((-64, -64, 0), (-1, 4), (1, 4)),
        ]
        for tent, share, expected in cases:
            self.assertEqual(factor([tent], [share]), expected)

    def test_regions_of_several_tents(self):
        self.assertEqual(factor([], []), (1, 1))
        self.assertEqual(factor([(0, 64, 64), (0, 64, 64)], [(1, 2), (2, 3)]), (1, 3))
        self.assertEqual(factor([(0, 64, 64), (0, 0, 0), (-64, -64, 0)], [(3, 4), (1, 5), (-2, 5)]), (3, 10))
        self.assertEqual(factor([(0, 64, 64), (0, 64, 64)], [(1, 2), (-1, 2)]), (0, 1))

    def test_it_is_what_point_44_tells(self):
        source = random.Random(44)
        for _ in range(500):
            region = [tent_of(source) for _ in range(3)]
            parts = [Fraction(source.randint(-16, 16), 16) for _ in range(3)]
            product = Fraction(1)
            for tent, share in zip(region, parts):
                product *= factor_by_definition(tent, share)
            found = factor(region, [pair(share) for share in parts])
            self.assertEqual(found, pair(product))
            self.assertTrue(0 <= product <= 1)

    def test_it_is_1_at_the_peaks(self):
        source = random.Random(47)
        for _ in range(100):
            region = [tent_of(source) for _ in range(2)]
            self.assertEqual(factor(region, [pair(Fraction(tent[1], 64)) for tent in region]), (1, 1))


class GlyphAtTest(unittest.TestCase):
    def test_points_of_all_contours(self):
        outline = [[(0, 0, True), (10, 0, False)], [(0, 10, True), (10, 10, True), (5, 5, False)]]
        glyph = Glyph(70, outline, deltas=[(0, 0, 1, 2), (0, 2, 30, -4), (0, 4, -8, 8), (0, -1, 20, 999)])
        font = Font(100, [glyph], axes=[(0, 0, 64)], regions=[[(0, 64, 64)]])
        found = glyph_at(font, 0, [32])
        self.assertEqual(found.outline, [[(1, 1, True), (10, 0, False)], [(15, 8, True), (10, 10, True), (1, 9, False)]])
        self.assertEqual((found.advance, found.deltas), (80, []))
        self.assertEqual(glyph_at(font, 0, [0]).outline, outline)
        self.assertEqual(glyph_at(font, 0, [0]).advance, 70)

    def test_all_else_is_unchanged(self):
        hint = [("push", 1), ("drop", 0)]
        anchors = [("mark", 1, 2, 3), ("base", 0, 5, 5)]
        glyph = Glyph(70, [[(0, 0, True), (1, 1, True)]], parts=[(1, 4, 4)], anchors=anchors, mark=True,
                      deltas=[(0, 0, 9, 9)], hint=hint)
        font = Font(100, [glyph, Glyph(5, [])], axes=[(0, 0, 64)], regions=[[(0, 64, 64)]])
        found = glyph_at(font, 0, [64])
        self.assertIsInstance(found, Glyph)
        self.assertEqual((found.parts, found.anchors, found.mark, found.hint), ([(1, 4, 4)], anchors, True, hint))
        self.assertEqual((found.outline, found.advance), ([[(9, 9, True), (1, 1, True)]], 70))

    def test_halves_are_rounded_up(self):
        for x, y, expected in ((1, -1, (1, 0)), (3, -3, (2, -1)), (5, 7, (3, 4)), (-7, 0, (-3, 0))):
            font = one_glyph([(0, 1, x, y), (0, -1, x, 0)])
            found = glyph_at(font, 0, [32])
            self.assertEqual(found.outline[0][1], (expected[0], expected[1], False))
            self.assertEqual(found.advance, 500 + expected[0])

    def test_the_sum_is_rounded_and_not_its_parts(self):
        font = one_glyph([(0, 1, 1, -1), (1, 1, 1, -1), (0, -1, 1, 0), (1, -1, 1, 0)])
        found = glyph_at(font, 0, [16])
        self.assertEqual((found.outline[0][1], found.advance), ((1, 0, False), 501))
        found = glyph_at(font, 0, [32])
        self.assertEqual((found.outline[0][1], found.advance), ((1, -1, False), 501))

    def test_several_deltas_of_one_region(self):
        font = one_glyph([(0, 1, 5, 5), (0, 1, 7, 8), (2, 1, 100, 200)])
        self.assertEqual(glyph_at(font, 0, [16]).outline[0][1], (103, 203, False))

    def test_coordinates_that_leave_their_range(self):
        for x, y, delta, good in (
            (16383, 0, (0, 1, 1, 0), True), (16383, 0, (0, 1, 2, 0), False), (0, 16380, (0, 1, 0, 4), True),
            (0, 16380, (0, 1, 0, 5), False), (-16383, 0, (0, 1, -1, 0), True), (-16384, 0, (0, 1, -1, 0), False),
            (0, -16380, (0, 1, 0, -4), True), (0, -16380, (0, 1, 0, -5), False), (16384, -16384, (0, 1, 0, 0), True),
        ):
            font = one_glyph([delta], x=x, y=y, number=2)
            if good:
                self.assertEqual(glyph_at(font, 2, [64]).outline[0][1], (x + delta[2], y + delta[3], False))
                continue
            for function, arguments in ((glyph_at, (font, 2, [64])), (at_place, (font, [64]))):
                with self.assertRaises(OutOfRange) as caught:
                    function(*arguments)
                self.assertEqual(caught.exception.number, 2)
            self.assertEqual(glyph_at(font, 2, [0]).outline[0][1], (x, y, False))

    def test_advances_that_leave_their_range(self):
        for advance, more, good in ((16380, 4, True), (16380, 5, False), (3, -3, True), (3, -4, False), (0, 0, True)):
            font = one_glyph([(0, -1, more, 0)], advance=advance)
            if good:
                self.assertEqual(glyph_at(font, 0, [64]).advance, advance + more)
            else:
                self.assertRaises(OutOfRange, glyph_at, font, 0, [64])
                self.assertRaises(OutOfRange, at_place, font, [64])
        # The y of the deltas of an advance does not count.
        self.assertEqual(glyph_at(one_glyph([(0, -1, 1, 16384)]), 0, [64]).advance, 501)

    def test_the_order_of_the_errors(self):
        font = one_glyph([(0, 1, 1, 0)], x=16384)
        for number in (-1, 1, 60):
            with self.assertRaises(UnknownGlyph) as caught:
                glyph_at(font, number, [65])
            self.assertEqual(caught.exception.number, number)
        self.assertRaises(InvalidPlace, glyph_at, font, 0, [65])
        self.assertRaises(InvalidPlace, at_place, font, [-1])
        self.assertRaises(OutOfRange, glyph_at, font, 0, [64])

    def test_random_fonts_by_the_definition(self):
        source = random.Random(45)
        for _ in range(80):
            font = some_font(source)
            place = [source.randint(axis[0], axis[2]) for axis in font.axes]
            for number, glyph in enumerate(font.glyphs):
                changes = changes_by_definition(font, glyph, place)
                found = glyph_at(font, number, place)
                points = [point for contour in glyph.outline for point in contour]
                expected = []
                for k, (x, y, on) in enumerate(points):
                    more = changes.get(k, (0, 0))
                    expected.append((x + more[0], y + more[1], on))
                self.assertEqual([point for contour in found.outline for point in contour], expected)
                self.assertEqual([len(contour) for contour in found.outline], [3, 2, 4])
                self.assertEqual(found.advance, 8000 + changes.get(-1, (0, 0))[0])


class InstanceTest(unittest.TestCase):
    def full_font(self):
        """Return a font that has something of everything."""
        glyphs = [
            Glyph(10, [[(0, 0, True), (4, 4, True)]], deltas=[(0, 1, 8, 8), (1, -1, 6, 0)], hint=[("push", 3)]),
            Glyph(20, [], parts=[(0, 1, 1)], anchors=[("exit", 0, 1, 1)], mark=True),
        ]
        return Font(
            100, glyphs, chars=[(97, 0)], lookups=[Lookup("single", [Rule([[0]], out=[1])], ignore=True)],
            features=[("swap", [0])], axes=[(0, 0, 64), (-64, 0, 64)], regions=[[(0, 64, 64), (0, 0, 0)], [(0, 0, 0)] * 2],
            functions=[[("push", 1)]], presets=[5, -6],
        )

    def test_all_else_is_as_in_the_font(self):
        font = self.full_font()
        instance = at_place(font, [32, 64])
        self.assertIsInstance(instance, Font)
        glyphs = [
            Glyph(16, [[(0, 0, True), (8, 8, True)]], hint=[("push", 3)]),
            Glyph(20, [], parts=[(0, 1, 1)], anchors=[("exit", 0, 1, 1)], mark=True),
        ]
        expected = Font(
            100, glyphs, chars=[(97, 0)], lookups=font.lookups, features=[("swap", [0])], functions=[[("push", 1)]],
            presets=[5, -6],
        )
        self.assertTrue(same_font(instance, expected))
        self.assertEqual((instance.axes, instance.regions), ([], []))

    def test_each_glyph_is_the_glyph_at_the_place(self):
        source = random.Random(46)
        for _ in range(30):
            font = some_font(source)
            place = [source.randint(axis[0], axis[2]) for axis in font.axes]
            instance = at_place(font, place)
            for number in range(3):
                found = glyph_at(font, number, place)
                glyph = instance.glyphs[number]
                self.assertEqual((glyph.outline, glyph.advance, glyph.deltas), (found.outline, found.advance, []))

    def test_an_instance_of_an_instance(self):
        instance = at_place(self.full_font(), [32, 64])
        self.assertTrue(same_font(at_place(instance, []), instance))
        self.assertRaises(InvalidPlace, at_place, instance, [32, 64])

    def test_the_first_glyph_that_does_not_exist(self):
        bad = Glyph(5, [[(16384, 0, True), (0, 0, True)]], deltas=[(0, 0, 1, 0)])
        worse = Glyph(0, [], deltas=[(0, -1, -1, 0)])
        for glyphs, number in (([Glyph(5, []), worse, bad], 1), ([bad, worse], 0), ([Glyph(5, []), Glyph(1, []), bad], 2)):
            font = Font(100, glyphs, axes=[(0, 0, 1)], regions=[[(0, 64, 64)]])
            with self.assertRaises(OutOfRange) as caught:
                at_place(font, [1])
            self.assertEqual(caught.exception.number, number)
            self.assertEqual(len(at_place(font, [0]).glyphs), len(glyphs))
        self.assertEqual(OutOfRange.__bases__, (FleuronError,))

    def test_the_normal_place(self):
        source = random.Random(48)
        counted = 0
        for _ in range(100):
            font = some_font(source)
            if all(any(t[1] != 0 and not t[0] < 0 < t[2] for t in region) for region in font.regions):
                counted += 1
                instance = at_place(font, [axis[1] for axis in font.axes])
                self.assertEqual([glyph.outline for glyph in instance.glyphs], [glyph.outline for glyph in font.glyphs])
                self.assertEqual([glyph.advance for glyph in instance.glyphs], [8000] * 3)
        self.assertGreater(counted, 20)

    def test_arguments_are_not_modified(self):
        font, same = self.full_font(), self.full_font()
        place, region, parts = [32, 0], [(0, 64, 64)], [(1, 2)]
        before = copy.deepcopy((place, region, parts))
        instance = at_place(font, place)
        instance.glyphs[0].outline[0].append((1, 1, True))
        instance.glyphs[0].hint.append(("push", 2))
        instance.chars.append((98, 0))
        glyph = glyph_at(font, 0, place)
        glyph.outline[0].append((1, 1, True))
        glyph.hint.append(("push", 2))
        shares(font, place).append((5, 5))
        factor(region, parts)
        self.assertTrue(same_font(font, same))
        self.assertEqual((place, region, parts), before)


if __name__ == "__main__":
    unittest.main()
