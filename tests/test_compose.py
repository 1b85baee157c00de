"""Point 16, and the interface of fleuron/compose.py."""

import unittest

from fleuron.compose import depth, flat_outline, made_of
from fleuron.errors import TooLarge, UnknownGlyph
from fleuron.fonts import Font, Glyph, same_font
from fleuron.outlines import count_points

BOX = [(0, 0, True), (10, 0, True), (10, 10, True)]
DOT = [(1, 2, False), (3, 4, True)]


def at(contour, x, y):
    """Return the contour moved."""
    return [(px + x, py + y, on) for px, py, on in contour]


def composed():
    """Return a font with glyphs of depths 0 to 4; glyph 1 stands ahead of its parts."""
    return Font(100, [
        Glyph(12, [BOX]),
        Glyph(20, [DOT], parts=[(2, 100, 0), (0, -5, 6)]),
        Glyph(20, [], parts=[(0, 0, 0), (0, 10, 5)]),
        Glyph(0, [DOT, BOX]),
        Glyph(0, [], parts=[(1, 1000, 1000), (3, 0, 0)]),
        Glyph(0, [DOT], parts=[(4, 0, 1)]),
        Glyph(0, []),
    ])


class FlatOutlineTest(unittest.TestCase):
    def test_the_examples_of_the_interface(self):
        font = Font(100, [Glyph(12, [BOX]), Glyph(20, [], parts=[(0, 0, 0), (0, 10, 5)])])
        self.assertEqual(flat_outline(font, 1), [BOX, [(10, 5, True), (20, 5, True), (20, 15, True)]])
        self.assertEqual((made_of(font, 1), depth(font, 1)), ([0, 1], 1))

    def test_without_parts(self):
        self.assertEqual(flat_outline(composed(), 0), [BOX])
        self.assertEqual(flat_outline(composed(), 3), [DOT, BOX])
        self.assertEqual(flat_outline(composed(), 6), [])

    def test_parts_of_parts(self):
        first = [DOT, at(BOX, 100, 0), at(BOX, 110, 5), at(BOX, -5, 6)]
        self.assertEqual(flat_outline(composed(), 1), first)
        second = [at(contour, 1000, 1000) for contour in first] + [DOT, BOX]
        self.assertEqual(flat_outline(composed(), 4), second)
        self.assertEqual(flat_outline(composed(), 5), [DOT] + [at(contour, 0, 1) for contour in second])

    def test_moves_may_leave_the_range_of_coordinates(self):
        far = Glyph(0, [[(16384, 0, True), (0, -16384, True)]])
        font = Font(16, [far, Glyph(0, [], parts=[(0, 16384, -16384)])])
        self.assertEqual(flat_outline(font, 1), [[(32768, -16384, True), (16384, -32768, True)]])

    def test_1000_points_and_more(self):
        full = Glyph(0, [BOX[:2] * 100])
        font = Font(16, [
            full,
            Glyph(0, [], parts=[(0, k, k) for k in range(5)]),
            Glyph(0, [BOX[:2]], parts=[(0, k, k) for k in range(5)]),
            Glyph(0, [], parts=[(2, 0, 0)]),
            Glyph(0, [BOX], parts=[(0, k, k) for k in range(4)] + [(5, 0, 0)]),
            Glyph(0, [BOX * 66]),
        ])
        self.assertEqual(count_points(flat_outline(font, 1)), 1000)
        # Glyphs 2 and 3 have 1002 points, glyph 4 has 3 + 800 + 198.
        for glyph in (2, 3, 4):
            with self.assertRaises(TooLarge) as caught:
                flat_outline(font, glyph)
            self.assertEqual(caught.exception.limit, "points")

    def test_very_many_parts_of_parts(self):
        for outline, limit in (([], None), ([BOX], "points")):
            tower = [Glyph(0, outline)] + [Glyph(0, [], parts=[(k, 0, 0)] * 500) for k in range(4)]
            font = Font(16, tower)
            self.assertEqual((made_of(font, 4), depth(font, 4)), ([0, 1, 2, 3, 4], 4))
            if limit is None:
                self.assertEqual(flat_outline(font, 4), [])
            else:
                self.assertRaises(TooLarge, flat_outline, font, 4)

    def test_what_is_returned_is_new(self):
        font = composed()
        for glyph in range(7):
            outline = flat_outline(font, glyph)
            for contour in outline:
                contour.append((9, 9, True))
            outline.append([])
            made_of(font, glyph).append(99)
        self.assertTrue(same_font(font, composed()))


class MadeOfTest(unittest.TestCase):
    def test_made_of(self):
        expected = [[0], [0, 1, 2], [0, 2], [3], [0, 1, 2, 3, 4], [0, 1, 2, 3, 4, 5], [6]]
        self.assertEqual([made_of(composed(), glyph) for glyph in range(7)], expected)

    def test_depth(self):
        self.assertEqual([depth(composed(), glyph) for glyph in range(7)], [0, 2, 1, 0, 3, 4, 0])

    def test_unknown_glyphs(self):
        for function in (flat_outline, made_of, depth):
            for number in (-1, 7, 100):
                with self.assertRaises(UnknownGlyph) as caught:
                    function(composed(), number)
                self.assertEqual(caught.exception.number, number)


if __name__ == "__main__":
    unittest.main()
