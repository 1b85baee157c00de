"""Points 65 to 70, and the interface of fleuron/raster.py."""

import copy
import random
import unittest
from fractions import Fraction
from math import ceil, floor

from fleuron.errors import FleuronError, InvalidSize, NoTable, TooLarge, UnknownGlyph
from fleuron.fonts import Font, Glyph
from fleuron.grid import fitted_slow
from fleuron.outlines import lines
from fleuron.raster import fill, glyph_pixels, joined, moved_pixels, picture, winding


def box(left, low, right, high):
    """Return the line of a rectangle, against the clock."""
    return [(left, low), (right, low), (right, high), (left, high)]


def back(line):
    """Return the line in the other direction."""
    return line[:1] + line[:0:-1]


def block(left, low, right, high):
    """Return the pixels from left and low to before right and high."""
    return [(i, k) for i in range(left, right) for k in range(low, high)]


def crossings(rows, height):
    """Return the crossings of a height as point 66 tells: pairs of a fraction and 1 or -1."""
    found = []
    for row in rows:
        for (x1, y1), (x2, y2) in zip(row, row[1:] + row[:1]):
            if y1 <= height < y2 or y2 <= height < y1:
                x = x1 + Fraction((height - y1) * (x2 - x1), y2 - y1)
                found.append((x, 1 if y1 < y2 else -1))
    return found


def winding_by_points(rows, x, y):
    """Return the winding as point 67 tells."""
    return sum(change for at, change in crossings(rows, y) if at <= x)


def fill_by_points(rows):
    """Return the black pixels as point 68 tells: center by center, and stretch by stretch."""
    pairs = [pair for row in rows for pair in row]
    if not pairs:
        return []
    xs, ys = [x for x, _ in pairs], [y for _, y in pairs]
    black = set()
    for k in range(min(ys) // 64 - 1, max(ys) // 64 + 2):
        height = 64 * k + 32
        for i in range(min(xs) // 64 - 1, max(xs) // 64 + 2):
            if winding_by_points(rows, 64 * i + 32, height) != 0:
                black.add((i, k))
        places = sorted({x for x, _ in crossings(rows, height)})
        behind = [winding_by_points(rows, x, height) for x in places]
        for at, x in enumerate(places):
            if behind[at] != 0 and (at == 0 or behind[at - 1] == 0):
                end = next(y for y, now in zip(places[at:], behind[at:]) if now == 0)
                if ceil((x - 32) / 64) * 64 + 32 >= end:
                    black.add((floor((x + end) / 2 / 64), k))
    return sorted(black)


class ExamplesTest(unittest.TestCase):
    def test_the_examples_of_the_interface(self):
        square = [[(0, 0), (128, 0), (128, 64), (0, 64)]]
        self.assertEqual(
            (fill(square), winding(square, 0, 0), winding(square, 128, 0)), ([(0, 0), (1, 0)], -1, 0)
        )
        self.assertEqual(fill([[(10, 0), (20, 0), (20, 64), (10, 64)]]), [(0, 0)])
        self.assertEqual(picture([(0, 0), (1, 1)]), [".#", "#."])


class WindingTest(unittest.TestCase):
    def test_points_on_edges(self):
        square = [box(0, 0, 10, 10)]
        for x, y, expected in (
            (0, 5, -1), (-1, 5, 0), (5, 5, -1), (9, 5, -1), (10, 5, 0), (11, 5, 0),
            (5, 0, -1), (5, -1, 0), (5, 9, -1), (5, 10, 0), (0, 0, -1), (10, 10, 0), (0, 10, 0), (10, 0, 0),
        ):
            self.assertEqual(winding(square, x, y), expected, (x, y))
            self.assertEqual(winding([back(square[0])], x, y), -expected, (x, y))

    def test_level_edges_cross_nothing(self):
        self.assertEqual(winding([[(0, 0), (10, 0)]], 5, 0), 0)
        self.assertEqual(winding([[(0, 0), (10, 0), (20, 0)]], 30, 0), 0)

    def test_slanting_edges(self):
        # At the height 1 the edge from (0, 0) to (10, 3) has the x 10 / 3.
        rows = [[(0, 0), (10, 3), (10, 0)]]
        self.assertEqual([winding(rows, x, 1) for x in (3, 4, 9, 10)], [0, 1, 1, 0])
        # The edge from (-10, 0) to (0, 3) has the x -20 / 3 there.
        rows = [[(-10, 0), (0, 3), (0, 0)]]
        self.assertEqual([winding(rows, x, 1) for x in (-7, -6, -1, 0)], [0, 1, 1, 0])
        rows = [[(0, 3), (10, 0), (10, 3)]]
        self.assertEqual([winding(rows, x, 2) for x in (3, 4, 9, 10)], [0, -1, -1, 0])

    def test_several_times_around(self):
        rows = [box(0, 0, 10, 10), box(2, 2, 8, 8), back(box(4, 4, 6, 6))]
        self.assertEqual([winding(rows, x, 5) for x in (-1, 0, 2, 4, 6, 8, 10)], [0, -1, -2, -1, -2, -1, 0])

    def test_lines_of_few_pairs(self):
        self.assertEqual(winding([], 0, 0), 0)
        self.assertEqual(winding([[], [(0, 0)], [(0, 0), (0, 9)]], 0, 0), 0)
        self.assertEqual(winding([[(0, 0), (4, 9)]], 2, 3), 0)

    def test_many_lines(self):
        source = random.Random(67)
        for _ in range(300):
            rows = [[(source.randint(-9, 9), source.randint(-9, 9)) for _ in range(source.randrange(6))]
                    for _ in range(3)]
            for _ in range(10):
                x, y = source.randint(-10, 10), source.randint(-10, 10)
                self.assertEqual(winding(rows, x, y), winding_by_points(rows, x, y))


class FillTest(unittest.TestCase):
    def test_nothing(self):
        for rows in ([], [[]], [[(5, 5)]], [[(0, 32), (100, 32)]], [[(0, 0), (300, 300)]]):
            self.assertEqual(fill(rows), [])

    def test_whole_pixels(self):
        self.assertEqual(fill([box(0, 0, 192, 128)]), block(0, 0, 3, 2))
        self.assertEqual(fill([box(-128, -64, 64, 0)]), block(-2, -1, 1, 0))

    def test_pixels_in_ascending_order(self):
        self.assertEqual(fill([box(64, 0, 192, 128), box(-64, 0, 0, 64)]), [(-1, 0), (1, 0), (1, 1), (2, 0), (2, 1)])

    def test_heights_just_at_a_pair(self):
        # The center of the row 0 has the height 32: the lower end of an edge counts, the upper one does not.
        for low, high, expected in (
            (32, 33, [(0, 0)]), (31, 32, []), (33, 95, []), (33, 96, []), (33, 97, [(0, 1)]), (32, 96, [(0, 0)]),
            (32, 97, [(0, 0), (0, 1)]), (-32, -31, [(0, -1)]), (-33, -32, []),
        ):
            self.assertEqual(fill([box(0, low, 64, high)]), expected, (low, high))

    def test_stretches_that_begin_or_end_at_a_center(self):
        for left, right, expected in (
            (32, 96, [0]), (32, 97, [0, 1]), (31, 96, [0]), (33, 96, [1]), (33, 97, [1]), (32, 33, [0]),
            # (31 + 32) / 2 lies in the pixel 0, (90 + 96) / 2 in the pixel 1.
            (31, 32, [0]), (90, 96, [1]), (33, 95, [1]), (33, 94, [0]), (60, 68, [1]), (60, 67, [0]),
            (-32, -31, [-1]), (-33, -32, [-1]), (-10, 9, [-1]), (-10, 10, [0]), (-10, 11, [0]), (-1, 0, [-1]),
        ):
            self.assertEqual(fill([box(left, 0, right, 64)]), [(i, 0) for i in expected], (left, right))
            self.assertEqual(fill([back(box(left, 0, right, 64))]), [(i, 0) for i in expected], (left, right))

    def test_fractions_at_a_center(self):
        # At the height 32 the slanting edge has the x 32, 32 - 1 / 64 and 32 + 1 / 64.
        for top, expected in ((64, [(0, 0)]), (63, [(0, 0)]), (65, [(1, 0)])):
            self.assertEqual(fill([[(0, 0), (96, 0), (96, 64), (top, 64)]]), expected)

    def test_a_middle_between_fractions(self):
        # At the height 32 the stretch goes from 63 + 1 / 2 to 64 + 1 / 2 and one 64th less.
        self.assertEqual(fill([[(63, 0), (64, 0), (65, 64), (64, 64)]]), [(1, 0)])
        self.assertEqual(fill([[(63, 0), (64, 0), (64, 64), (64, 64)]]), [(0, 0)])

    def test_a_stretch_goes_on_whatever_the_winding_is(self):
        # From 33 to 50 the winding is -1, from 50 to 60 -2, and from 60 to 90 -1.
        self.assertEqual(fill([box(33, 0, 60, 64), box(50, 0, 90, 64)]), [(0, 0)])
        self.assertEqual(fill([box(33, 0, 60, 64), box(60, 0, 90, 64)]), [(0, 0)])
        # Two stretches, of which each has a pixel of its own.
        self.assertEqual(fill([box(33, 0, 60, 64), box(65, 0, 90, 64)]), [(0, 0), (1, 0)])
        self.assertEqual(fill([box(33, 0, 40, 64), box(41, 0, 50, 64)]), [(0, 0)])

    def test_several_edges_that_cross_at_one_x(self):
        # A box to the right against one to the left: the winding goes from -1 to 1 at 70, without being 0.
        self.assertEqual(fill([box(40, 0, 70, 64), back(box(70, 0, 94, 64))]), [(1, 0)])
        self.assertEqual(fill([box(40, 0, 70, 64), back(box(71, 0, 94, 64))]), [(0, 0), (1, 0)])
        self.assertEqual(fill([box(0, 0, 64, 64), back(box(0, 0, 64, 64))]), [])
        # Edges whose crossings are the same fraction of other numbers: both have the x 33 + 1 / 3.
        rows = [[(33, 31), (34, 34), (33, 34)], [(33, 31), (33, 37), (35, 37)]]
        self.assertEqual(fill(rows), fill_by_points(rows))

    def test_windings_that_are_not_0(self):
        self.assertEqual(fill([box(0, 0, 192, 192), box(64, 64, 128, 128)]), block(0, 0, 3, 3))
        hole = [pixel for pixel in block(0, 0, 3, 3) if pixel != (1, 1)]
        self.assertEqual(fill([box(0, 0, 192, 192), back(box(64, 64, 128, 128))]), hole)

    def test_lines_that_reach_65536_and_one_more(self):
        wide = [box(-32768, 0, 32768, 64)]
        self.assertEqual(fill(wide), [(i, 0) for i in range(-512, 512)])
        tall = [box(0, -32768, 64, 32768)]
        self.assertEqual(fill(tall), [(0, k) for k in range(-512, 512)])
        for rows in ([box(-32768, 0, 32769, 64)], [box(0, 0, 64, 65537)], [[(0, 0)], [(65537, 0)]], [[(0, 0), (0, 65537)]]):
            with self.assertRaises(TooLarge) as caught:
                fill(rows)
            self.assertEqual(caught.exception.limit, "lines")
        self.assertEqual(fill([[(0, 0)], [(65536, 65536)]]), [])
        self.assertEqual(fill([box(10 ** 9, -10 ** 9, 10 ** 9 + 64, 64 - 10 ** 9)]), [(15625000, -15625000)])

    def test_close_crossings(self):
        # At the height 32 the edges have the x 1 - 1 / 65536 and 1 - 1 / 65535.
        rows = [[(0, 31), (65535, 65567), (65534, 65566)]]
        pixels = fill(rows)
        self.assertEqual(pixels[:3], [(0, 0), (1, 1), (2, 2)])
        self.assertEqual(len(pixels), 1024)
        self.assertEqual(fill([back(rows[0])]), pixels)

    def test_many_lines(self):
        source = random.Random(68)
        for k in range(500):
            reach = source.choice((40, 130, 300))
            rows = [[(source.randint(-reach, reach), source.randint(-reach, reach)) for _ in range(source.randrange(6))]
                    for _ in range(source.randint(1, 3))]
            if k % 3 == 0:
                rows = [[(x // 32 * 32, y // 32 * 32) for x, y in row] for row in rows]
            before = copy.deepcopy(rows)
            self.assertEqual(fill(rows), fill_by_points(rows))
            self.assertEqual(rows, before)

    def test_the_facts(self):
        source = random.Random(69)
        for _ in range(100):
            rows = [[(source.randint(-200, 200), source.randint(-200, 200)) for _ in range(5)] for _ in range(2)]
            pixels = fill(rows)
            self.assertEqual(fill([row[3:] + row[:3] for row in rows]), pixels)
            self.assertEqual(fill([back(row) for row in rows]), pixels)
            self.assertEqual(fill(rows + rows), pixels)
            moved = [[(x + 64 * 3, y - 64 * 2) for x, y in row] for row in rows]
            self.assertEqual(fill(moved), moved_pixels(pixels, 3, -2))
            far = [[(x + 401, y) for x, y in row] for row in rows]
            self.assertEqual(fill(rows + far), joined(pixels, fill(far)))


class GlyphPixelsTest(unittest.TestCase):
    def test_a_glyph(self):
        contour = [(0, 0, True), (128, 0, True), (128, 64, True), (0, 64, True)]
        hint = [("push", 1), ("push", 64), ("move", 0), ("push", 2), ("push", 64), ("move", 0)]
        font = Font(64, [Glyph(0, [contour]), Glyph(0, [contour], hint=hint), Glyph(0, [])])
        self.assertEqual(glyph_pixels(font, 0, 1), block(0, 0, 2, 1))
        self.assertEqual(glyph_pixels(font, 0, 2), block(0, 0, 4, 2))
        self.assertEqual(glyph_pixels(font, 1, 1), block(0, 0, 3, 1))
        self.assertEqual(glyph_pixels(font, 2, 1), [])

    def test_curves(self):
        contour = [(0, 0, True), (600, 0, False), (600, 600, False), (0, 600, True)]
        font = Font(64, [Glyph(0, [contour], hint=[("push", 1), ("push", -90), ("move", 0)])])
        self.assertEqual(glyph_pixels(font, 0, 1), fill_by_points(lines(fitted_slow(font, 0, 1))))

    def test_errors(self):
        contour = [(0, 0, True), (400, 0, True), (400, 400, True)]
        font = Font(16, [Glyph(0, [contour]), Glyph(0, [contour], hint=[("drop", 0)])])
        with self.assertRaises(InvalidSize):
            glyph_pixels(font, 9, 0)
        with self.assertRaises(InvalidSize):
            glyph_pixels(font, 0, 201)
        with self.assertRaises(UnknownGlyph):
            glyph_pixels(font, 2, 200)
        with self.assertRaises(NoTable):
            glyph_pixels(font, 1, 200)
        # 400 * 64 * 40 / 16 is 64000, 400 * 64 * 41 / 16 is 65600.
        self.assertEqual(glyph_pixels(font, 0, 40)[-1], (999, 999))
        with self.assertRaises(TooLarge) as caught:
            glyph_pixels(font, 0, 41)
        self.assertEqual(caught.exception.limit, "lines")


class PixelsTest(unittest.TestCase):
    def test_moved_pixels(self):
        pixels = [(-1, 4), (0, 0), (0, 7)]
        self.assertEqual(moved_pixels(pixels, 3, -5), [(2, -1), (3, -5), (3, 2)])
        self.assertEqual(moved_pixels(pixels, 0, 0), pixels)
        self.assertIsNot(moved_pixels(pixels, 0, 0), pixels)
        self.assertEqual(moved_pixels([], 3, 5), [])
        self.assertEqual(pixels, [(-1, 4), (0, 0), (0, 7)])

    def test_joined(self):
        first, second = [(-3, 0), (0, 5), (2, 2)], [(-3, -1), (0, 5), (0, 6), (9, 9)]
        everything = [(-3, -1), (-3, 0), (0, 5), (0, 6), (2, 2), (9, 9)]
        self.assertEqual(joined(first, second), everything)
        self.assertEqual(joined(second, first), everything)
        self.assertEqual((joined(first, []), joined([], first), joined([], [])), (first, first, []))
        self.assertIsNot(joined(first, []), first)
        self.assertEqual((first, len(second)), ([(-3, 0), (0, 5), (2, 2)], 4))


class PictureTest(unittest.TestCase):
    def test_pictures(self):
        self.assertEqual(picture([]), [])
        self.assertEqual(picture([(5, -9)]), ["#"])
        self.assertEqual(picture([(-2, -1), (-2, 1), (0, -1)]), ["#..", "...", "#.#"])
        pixels = [(-1, -1), (0, 0)]
        self.assertEqual(picture(pixels), [".#", "#."])
        self.assertEqual(pixels, [(-1, -1), (0, 0)])

    def test_1000_and_1001_rows_and_columns(self):
        rows = picture([(0, -500), (0, 499)])
        self.assertEqual(rows, ["#"] + ["."] * 998 + ["#"])
        self.assertEqual(picture([(-500, 3), (499, 3)]), ["#" + "." * 998 + "#"])
        for pixels in ([(0, -500), (0, 500)], [(-500, 3), (500, 3)], [(0, 0), (10 ** 9, 10 ** 9)]):
            with self.assertRaises(TooLarge) as caught:
                picture(pixels)
            self.assertIsInstance(caught.exception, FleuronError)
            self.assertEqual(caught.exception.limit, "picture")

    def test_the_picture_of_a_glyph(self):
        rows = [box(0, 0, 192, 192), back(box(64, 64, 128, 128))]
        self.assertEqual(picture(fill(rows)), ["###", "#.#", "###"])


if __name__ == "__main__":
    unittest.main()
