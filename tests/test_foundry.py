"""Points 82 to 84, and the interface of fleuron/foundry.py."""

import copy
import random
import unittest

from fleuron.attach import pens
from fleuron.errors import (
    FleuronError, InvalidPacking, InvalidPlace, InvalidSize, InvalidTable, NoTable, OutOfRange, TooLarge,
)
from fleuron.fonts import Font, Glyph, Lookup, Rule, same_font
from fleuron.foundry import cell, draw, draw_by_rules, draw_small, first_difference
from fleuron.grid import scaled
from fleuron.raster import glyph_pixels
from fleuron.shaping import shape_by_rules
from fleuron.vary import at_place
from tests.whole_fonts import some_place, some_request, some_tables, whole_font

BOX = [[(0, 0, True), (64, 0, True), (64, 64, True), (0, 64, True)]]
WAYS = (draw, draw_by_rules, draw_small)


def plain_font(**options):
    """Return a font whose code 97 has a box of one pixel at size 1."""
    return Font(64, [Glyph(64, []), Glyph(128, BOX)], chars=[(97, 1)], **options)


def moving_font():
    """Return a font with an axis along which the box becomes wider, and the advance greater."""
    box = Glyph(128, BOX, deltas=[(0, 1, 80, 0), (0, 2, 80, 0), (0, -1, 64, 0)])
    return Font(64, [Glyph(64, []), Glyph(5, [], deltas=[(0, -1, -10, 0)]), box], chars=[(97, 2), (98, 1)],
                axes=[(0, 0, 10)], regions=[[(0, 64, 64)]])


class ExamplesTest(unittest.TestCase):
    def test_the_examples_of_the_interface(self):
        font = plain_font()
        run, pixels = draw(font, [97, 97], [], None, 1)
        self.assertEqual((run, pixels), ([(1, 0, 0, 128, 0, 0), (1, 1, 0, 128, 0, 0)], [(0, 0), (2, 0)]))
        self.assertIs(draw_by_rules(font, [97, 97], [], None, 1) == (run, pixels), True)
        self.assertEqual(first_difference([(0, 0), (2, 0)], [(0, 0), (1, 5), (2, 0)]), (1, 5))


class CellTest(unittest.TestCase):
    def test_cells(self):
        font = Font(64, [Glyph(0, [])])
        for pen, x, y, expected in (
            (0, 0, 0, (0, 0)), (31, 0, 0, (0, 0)), (32, 0, 0, (1, 0)), (95, 0, 0, (1, 0)), (0, 32, 31, (1, 0)),
            (0, 0, 32, (0, 1)), (0, -32, -32, (0, 0)), (0, -33, -33, (-1, -1)), (64, -97, -96, (-1, -1)),
            (100, -4, -97, (2, -2)), (-64, 0, 640, (-1, 10)),
        ):
            self.assertEqual(cell(font, pen, (0, 0, 0, 5, x, y), 1), expected, (pen, x, y))

    def test_pen_and_x_are_added_before_they_are_scaled(self):
        # 1 / 2 and 1 / 2 would both become 1.
        font = Font(128, [Glyph(0, [])])
        self.assertEqual(cell(font, 31, (0, 0, 0, 5, 32, 63), 1), (1, 1))
        self.assertEqual(cell(font, 31, (0, 0, 0, 5, 31, 62), 1), (0, 0))
        self.assertEqual(cell(font, 31, (0, 0, 0, 5, 31, 62), 3), (1, 1))

    def test_many_cells(self):
        source = random.Random(82)
        for _ in range(300):
            font = Font(source.randint(16, 2000), [Glyph(0, [])])
            pen, x, y, size = (source.randint(-3000, 3000) for _ in range(4))
            size = abs(size) // 15 + 1
            expected = tuple((scaled(font.unit, size, n) + 32) // 64 for n in (pen + x, y))
            self.assertEqual(cell(font, pen, (0, 1, 2, 3, x, y), size), expected)


class DrawTest(unittest.TestCase):
    def drawn(self, font, *arguments, **options):
        """Return the drawing, which is the same in all ways."""
        drawing = draw(font, *arguments, **options)
        self.assertIsInstance(drawing, tuple)
        for way in WAYS[1:]:
            self.assertEqual(way(font, *arguments, **options), drawing)
        return drawing

    def test_an_empty_text(self):
        for size in (0, 1, 16, 200, 201, -5):
            self.assertEqual(self.drawn(plain_font(), [], [], None, size), ([], []))

    def test_sizes(self):
        font = plain_font()
        self.assertEqual(self.drawn(font, [97], [])[1], [(i, k) for i in range(16) for k in range(16)])
        self.assertEqual(len(self.drawn(font, [97], [], None, 200)[1]), 40000)
        for way in WAYS:
            for size in (0, 201, -1):
                for code in (97, 5):
                    with self.assertRaises(InvalidSize):
                        way(font, [code], [], None, size)

    def test_overlapping_pixels_stand_once_in_ascending_order(self):
        font = Font(64, [Glyph(0, []), Glyph(64, [[(-64, 0, True), (128, 0, True), (128, 64, True), (-64, 64, True)]])],
                    chars=[(97, 1)])
        self.assertEqual(self.drawn(font, [97, 97], [], None, 1)[1], [(-1, 0), (0, 0), (1, 0), (2, 0)])
        font = Font(64, [Glyph(0, []), Glyph(0, BOX), Glyph(128, BOX)], chars=[(97, 1), (98, 2)])
        self.assertEqual(self.drawn(font, [98, 97, 97], [], None, 1)[1], [(0, 0), (2, 0)])

    def test_negative_pens_and_places(self):
        lookups = [Lookup("pair", [Rule([[1], [1]], extra=-256)])]
        font = plain_font(lookups=lookups, features=[("kern", [0])])
        run, pixels = self.drawn(font, [97, 97, 97], ["kern"], None, 1)
        self.assertEqual((pens(run), pixels), ([0, -128, -256], [(-4, 0), (-2, 0), (0, 0)]))

    def test_marks_are_drawn_where_they_are_attached(self):
        base = Glyph(128, BOX, anchors=[("base", 0, 32, 128)])
        mark = Glyph(64, BOX, anchors=[("mark", 0, 32, 0)], mark=True)
        font = Font(64, [Glyph(0, []), base, mark], chars=[(97, 1), (98, 2)], lookups=[Lookup("marks", [Rule([[1], [2]])])],
                    features=[("mark", [0])])
        run, pixels = self.drawn(font, [97, 98, 97], ["mark"], None, 1)
        self.assertEqual((run[1], pixels), ((2, 1, 0, 0, -128, 128), [(0, 0), (0, 2), (2, 0)]))

    def test_features_and_tables(self):
        glyphs = [Glyph(64, []), Glyph(64, BOX), Glyph(64, [[(x, y + 64, on) for x, y, on in BOX[0]]])]
        font = Font(64, glyphs, chars=[(97, 1), (98, 0)], lookups=[Lookup("single", [Rule([[1]], out=[2])])],
                    features=[("tail", [0])])
        self.assertEqual(self.drawn(font, [97, 97], ["tail"], None, 1)[1], [(0, 0), (1, 0)])
        self.assertEqual(self.drawn(font, [97, 97], ["tail"], None, 1, joins=[(97, "both")])[1], [(0, 0), (1, 1)])
        tables = {"joins": [(97, "both")], "orders": [(98, 1), (97, 2)]}
        run, pixels = self.drawn(font, [5, 97, 98], ["tail"], None, 1, **tables)
        self.assertEqual(([item[0] for item in run], pixels), ([0, 0, 1], [(2, 0)]))

    def test_at_a_place(self):
        font = moving_font()
        self.assertEqual(self.drawn(font, [97, 97], [], [0], 1)[1], [(0, 0), (2, 0)])
        self.assertEqual(self.drawn(font, [97, 97], [], None, 1)[1], [(0, 0), (2, 0)])
        self.assertEqual(self.drawn(font, [97, 97], [], [5], 1)[1], [(0, 0), (1, 0), (3, 0), (4, 0)])
        run = draw(font, [97], [], [5], 1)[0]
        self.assertEqual(run, [(2, 0, 0, 160, 0, 0)])

    def test_runs_of_200_and_201_items(self):
        font = plain_font()
        self.assertEqual(len(self.drawn(font, [97] * 200, [], None, 1)[1]), 200)
        for way in WAYS:
            with self.assertRaises(TooLarge) as caught:
                way(font, [97] * 201, [], None, 1)
            self.assertEqual(caught.exception.limit, "run")
            # Before any glyph is drawn.
            with self.assertRaises(TooLarge):
                way(font, [97] * 201, [], None, 0)
        more = plain_font(lookups=[Lookup("multiple", [Rule([[1]], out=[1, 1, 1])])], features=[("more", [0])])
        self.assertEqual(len(draw(more, [97] * 66, ["more"], None, 1)[0]), 198)
        for way in WAYS:
            with self.assertRaises(TooLarge):
                way(more, [97] * 67, ["more"], None, 1)
        fewer = plain_font(lookups=[Lookup("ligature", [Rule([[1], [1]], out=[1])])], features=[("less", [0])])
        self.assertEqual(len(self.drawn(fewer, [97] * 400, ["less"], None, 1)[0]), 200)


class ErrorsTest(unittest.TestCase):
    def errors(self, font, *arguments, **options):
        """Return the attributes of the error, which is the same in all ways, and its class."""
        found = []
        for way in WAYS:
            with self.assertRaises(FleuronError) as caught:
                way(font, *arguments, **options)
            found.append((type(caught.exception), vars(caught.exception)))
        self.assertEqual(found, found[:1] * 3)
        return found[0]

    def test_what_shaping_raises_comes_first(self):
        font = moving_font()
        table = {"joins": [(97, "back"), (97, "back")]}
        self.assertEqual(self.errors(font, [97] * 201, [], [11], 0, **table)[0], InvalidTable)
        self.assertEqual(self.errors(font, [97] * 201, [], [11], 0, orders=[(5, 0)])[0], InvalidTable)
        self.assertEqual(self.errors(font, [97] * 201, [], [11], 0)[0], InvalidPlace)
        self.assertEqual(self.errors(font, [98] * 201, [], [10], 0), (OutOfRange, {"number": 1}))
        self.assertEqual(self.errors(font, [97] * 201, [], None, 0), (TooLarge, {"limit": "run"}))
        self.assertEqual(self.errors(font, [97], [], None, 0), (InvalidSize, {}))

    def test_old_numbers_of_glyphs_that_do_not_exist(self):
        glyphs = [Glyph(64, []), Glyph(64, []), Glyph(64, []), Glyph(5, [], deltas=[(0, -1, -10, 0)])]
        font = Font(64, glyphs, chars=[(97, 3)], axes=[(0, 0, 10)], regions=[[(0, 64, 64)]])
        self.assertEqual(self.errors(font, [97], [], [10], 1), (OutOfRange, {"number": 3}))

    def test_the_first_item_that_cannot_be_drawn(self):
        huge = [[(0, 0, True), (16384, 0, True), (16384, 16384, True)]]
        glyphs = [Glyph(9, []), Glyph(9, [], hint=[("drop", 0)]), Glyph(9, huge), Glyph(9, [], hint=[("look", 0)] * 2001)]
        font = Font(16, glyphs, chars=[(97, 1), (98, 2), (99, 3)])
        self.assertEqual(self.errors(font, [5, 97, 98, 99], [], None, 2), (NoTable, {"function": -1, "place": 0}))
        self.assertEqual(self.errors(font, [5, 98, 97, 99], [], None, 2), (TooLarge, {"limit": "lines"}))
        self.assertEqual(self.errors(font, [5, 99, 98, 97], [], None, 2), (TooLarge, {"limit": "steps"}))
        self.assertEqual(draw(font, [5, 5], [], None, 2)[1], [])

    def test_too_many_states_are_raised_by_automata_alone(self):
        source = random.Random(83)
        rules = [Rule([sorted(source.sample(range(60), 30)) for _ in range(4)], out=[0]) for _ in range(12)]
        font = Font(64, [Glyph(64, BOX) for _ in range(60)], chars=[(97, 1)], lookups=[Lookup("ligature", rules)],
                    features=[("liga", [0])])
        with self.assertRaises(TooLarge) as caught:
            draw(font, [97], [], None, 1)
        self.assertEqual(caught.exception.limit, "states")
        self.assertEqual(draw_by_rules(font, [97], [], None, 1)[1], [(0, 0)])
        # The subset has no lookup.
        self.assertEqual(draw_small(font, [97], [], None, 1), draw_by_rules(font, [97], [], None, 1))


class DrawSmallTest(unittest.TestCase):
    def test_old_numbers(self):
        glyphs = [Glyph(64, []), Glyph(64, []), Glyph(64, BOX), Glyph(64, []), Glyph(128, BOX)]
        font = Font(64, glyphs, chars=[(97, 4), (98, 2), (99, 1)], lookups=[Lookup("single", [Rule([[2]], out=[4])])],
                    features=[("a", [0])])
        run, pixels = draw_small(font, [98, 97, 98], [], None, 1)
        self.assertEqual(([item[0] for item in run], pixels), ([2, 4, 2], [(0, 0), (1, 0), (3, 0)]))
        run, pixels = draw_small(font, [98, 5, 98], ["a"], None, 1)
        self.assertEqual(([item[0] for item in run], pixels), ([4, 0, 4], [(0, 0), (3, 0)]))

    def test_a_subset_that_is_too_long_when_packed(self):
        source = random.Random(40)
        hint = [("jump", 7000)] + [("push", source.randint(-2147483647, 2147483647)) for _ in range(7000)]
        font = Font(64, [Glyph(64, []), Glyph(128, BOX, hint=hint)], chars=[(97, 1), (98, 0)])
        self.assertEqual(len(draw(font, [97], [], None, 1)[1]), 1)
        with self.assertRaises(InvalidPacking):
            draw_small(font, [97], [], None, 1)
        # What drawing raises comes first, and without the glyph the subset is short.
        with self.assertRaises(InvalidSize):
            draw_small(font, [97], [], None, 0)
        with self.assertRaises(InvalidTable):
            draw_small(font, [97], [], None, 1, orders=[(5, 0)])
        self.assertEqual(draw_small(font, [98], [], None, 1), draw(font, [98], [], None, 1))


class FirstDifferenceTest(unittest.TestCase):
    def test_lists(self):
        first = [(-2, 5), (0, 0), (0, 3), (4, -1)]
        for second, expected in (
            (list(first), None), (first[:-1], (4, -1)), (first[:1], (0, 0)), ([], (-2, 5)), (first + [(4, 0)], (4, 0)),
            ([(-2, 4)] + first, (-2, 4)), (first[:2] + first[3:], (0, 3)), (first[:2] + [(0, 4)] + first[3:], (0, 3)),
            (first[:2] + [(0, 2)] + first[3:], (0, 2)), (first[1:], (-2, 5)),
        ):
            self.assertEqual(first_difference(first, second), expected)
            self.assertEqual(first_difference(second, first), expected)
        self.assertIsNone(first_difference([], []))

    def test_nothing_is_modified(self):
        first, second = [(0, 0), (1, 1)], [(0, 0), (1, 0)]
        first_difference(first, second)
        self.assertEqual((first, second), ([(0, 0), (1, 1)], [(0, 0), (1, 0)]))


class ManyFontsTest(unittest.TestCase):
    def outcome(self, way, font, codes, names, place, size, tables):
        """Return the drawing, or the class and the attributes of the error."""
        try:
            return way(font, codes, names, place, size, **tables)
        except FleuronError as error:
            return type(error), vars(error)

    def test_all_ways_give_the_same(self):
        source = random.Random(83)
        black = 0
        for _ in range(150):
            font = whole_font(source)
            codes, names = some_request(source, font)
            tables, place, size = some_tables(source), some_place(source, font), source.choice((1, 5, 12))
            before = copy.deepcopy((font, codes, names, tables, place))
            drawing = self.outcome(draw, font, codes, names, place, size, tables)
            self.assertEqual(self.outcome(draw_by_rules, font, codes, names, place, size, tables), drawing)
            self.assertEqual(self.outcome(draw_small, font, codes, names, place, size, tables), drawing)
            self.assertEqual(self.outcome(draw, font, codes, names, place, size, tables), drawing)
            self.assertTrue(same_font(font, before[0]))
            self.assertEqual((codes, names, tables, place), before[1:])
            if isinstance(drawing[0], list):
                self.assertEqual(drawing, self.by_points(font, codes, names, place, size, tables))
                black += len(drawing[1])
        self.assertGreater(black, 5000)

    def by_points(self, font, codes, names, place, size, tables):
        """Return the drawing as point 82 tells it."""
        instance = font if place is None else at_place(font, place)
        run = shape_by_rules(font, codes, names, place, **tables)
        black = set()
        for at, item in enumerate(run):
            across, along = cell(instance, sum(other[3] for other in run[:at]), item, size)
            black.update((i + across, k + along) for i, k in glyph_pixels(instance, item[0], size))
        return run, sorted(black)


if __name__ == "__main__":
    unittest.main()
