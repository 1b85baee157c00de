"""Points 64 and 65, and the interface of fleuron/grid.py."""

import random
import unittest
from fractions import Fraction
from math import floor

from fleuron.errors import InvalidSize, NoTable, TooLarge, UnknownGlyph
from fleuron.fonts import Font, Glyph, same_font
from fleuron.grid import fitted, fitted_slow, program_of, scaled, zone_of
from fleuron.machine import Program, Zone, run_program
from tests.programs import push, some_program

LINE = [(0, 0, True), (100, 50, False), (30, -40, True)]


def copied(font):
    """Return a font with the same parts."""
    return Font(font.unit, font.glyphs, chars=font.chars, lookups=font.lookups, features=font.features, axes=font.axes,
                regions=font.regions, functions=font.functions, presets=font.presets)


class ExamplesTest(unittest.TestCase):
    def test_the_examples_of_the_interface(self):
        self.assertEqual(
            (scaled(1000, 10, 500), scaled(1000, 1, -8), scaled(128, 1, 1), scaled(128, 1, -1)), (320, -1, 1, 0)
        )
        hint = [("push", 0), ("push", 0), ("get", 0), ("round", 0), ("set", 0)]
        font = Font(64, [Glyph(64, [[(5, 0, True), (9, 9, False)]], hint=hint)])
        self.assertEqual(fitted(font, 0, 10), [[(64, 0, True), (90, 90, False)]])


class ScaledTest(unittest.TestCase):
    def test_halves_of_either_sign(self):
        for n in range(-9, 10):
            # n / 2 on the grid: halves are rounded upwards.
            self.assertEqual(scaled(128, 1, n), (n + 1) // 2)
        self.assertEqual([scaled(256, 1, n) for n in (-3, -2, -1, 0, 1, 2, 3)], [-1, 0, 0, 0, 0, 1, 1])

    def test_the_nearest_integer(self):
        source = random.Random(64)
        for _ in range(2000):
            unit, size = source.randint(1, 16384), source.randint(1, 300)
            n = source.randint(-20000, 20000)
            self.assertEqual(scaled(unit, size, n), floor(Fraction(n * 64 * size, unit) + Fraction(1, 2)))
        self.assertEqual(scaled(1, 200, 10 ** 20), 128 * 10 ** 22)


class ZoneTest(unittest.TestCase):
    def test_a_zone(self):
        font = Font(128, [Glyph(0, [])])
        outline = [[(1, -1, True), (3, 2, False)], [(-3, 0, True), (4, 4, True), (5, 6, True)]]
        zone = zone_of(font, outline, 1)
        self.assertIsInstance(zone, Zone)
        self.assertEqual(zone.original, [(1, 0), (2, 1), (-1, 0), (2, 2), (3, 3)])
        self.assertEqual(zone.current, zone.original)
        self.assertEqual((zone.touched, zone.ends), ([0] * 5, [1, 4]))
        self.assertEqual(outline[0], [(1, -1, True), (3, 2, False)])
        self.assertEqual(zone_of(font, outline, 3).original[0], (2, -1))

    def test_an_empty_outline(self):
        zone = zone_of(Font(100, [Glyph(0, [])]), [], 10)
        self.assertEqual((zone.original, zone.current, zone.touched, zone.ends), ([], [], [], []))


class ProgramTest(unittest.TestCase):
    def test_a_program(self):
        functions = [[("push", 4)], []]
        font = Font(128, [Glyph(0, []), Glyph(0, [], hint=[("look", 1)])], functions=functions, presets=[-1, 1, 300])
        program = program_of(font, 1, 1)
        self.assertIsInstance(program, Program)
        self.assertEqual((program.main, program.functions, program.size), ([("look", 1)], functions, 1))
        self.assertEqual(program.presets, [0, 1, 150])
        self.assertEqual((program_of(font, 0, 7).main, program_of(font, 0, 7).presets), ([], [-3, 4, 1050]))
        self.assertEqual(program_of(font, 0, 7).size, 7)

    def test_unknown_glyphs(self):
        font = Font(128, [Glyph(0, [])])
        for number in (-1, 1):
            with self.assertRaises(UnknownGlyph) as caught:
                program_of(font, number, 1)
            self.assertEqual(caught.exception.number, number)


class FittedTest(unittest.TestCase):
    def both(self, font, number, size):
        """Return the fitted outline, which is the same in both ways."""
        outline = fitted(font, number, size)
        self.assertEqual(fitted_slow(font, number, size), outline)
        return outline

    def test_without_a_hint(self):
        font = Font(100, [Glyph(0, [LINE]), Glyph(0, [])])
        self.assertEqual(self.both(font, 0, 1), [[(0, 0, True), (64, 32, False), (19, -26, True)]])
        self.assertEqual(self.both(font, 1, 1), [])

    def test_parts(self):
        # The parts are moved in units, and what is moved is scaled.
        font = Font(128, [Glyph(0, [[(1, 1, True), (2, 2, False)]]), Glyph(0, [LINE], parts=[(0, 1, 0), (0, 0, -3)])])
        self.assertEqual(
            self.both(font, 1, 1),
            [[(0, 0, True), (50, 25, False), (15, -20, True)], [(1, 1, True), (2, 1, False)],
             [(1, -1, True), (1, 0, False)]],
        )

    def test_the_hint_is_that_of_the_glyph_alone(self):
        move = push(0, 64) + [("move", 0)]
        font = Font(64, [Glyph(0, [[(1, 1, True), (2, 2, False)]], hint=move), Glyph(0, [], parts=[(0, 5, 0)])])
        self.assertEqual(self.both(font, 0, 1), [[(65, 1, True), (2, 2, False)]])
        self.assertEqual(self.both(font, 1, 1), [[(6, 1, True), (7, 2, False)]])

    def test_presets_functions_size_and_contours(self):
        contours = [[(0, 0, True), (10, 0, True)], [(20, 0, True), (30, 0, False)]]
        hint = push(0, 0) + [("value", 0), ("set", 0)] + push(2) + [("size", 0), ("set", 0), ("call", 0)]
        font = Font(128, [Glyph(0, contours, hint=hint)], functions=[[("between", 0)]], presets=[21])
        # The contours have ends of their own: each is moved by its own touched point.
        self.assertEqual(
            self.both(font, 0, 2), [[(21, 0, True), (31, 0, True)], [(2, 0, True), (12, 0, False)]]
        )

    def test_sizes(self):
        font = Font(64, [Glyph(0, [LINE])])
        self.assertEqual(self.both(font, 0, 1)[0][1], (100, 50, False))
        self.assertEqual(self.both(font, 0, 200)[0][1], (20000, 10000, False))
        for way in (fitted, fitted_slow):
            for size in (0, 201, -1):
                with self.assertRaises(InvalidSize):
                    way(font, 0, size)

    def test_the_order_of_the_errors(self):
        bad = [("drop", 0)]
        many = [Glyph(0, [[(0, 0, True)] * 200]), Glyph(0, [], parts=[(0, 0, 0)] * 6, hint=bad)]
        font = Font(64, many + [Glyph(0, [], parts=[(0, 0, 0)] * 6)])
        for way in (fitted, fitted_slow):
            with self.assertRaises(InvalidSize):
                way(font, 9, 0)
            for number in (-1, 3):
                with self.assertRaises(UnknownGlyph) as caught:
                    way(font, number, 200)
                self.assertEqual(caught.exception.number, number)
            with self.assertRaises(NoTable) as caught:
                way(font, 1, 10)
            self.assertEqual((caught.exception.function, caught.exception.place), (-1, 0))
            with self.assertRaises(TooLarge) as caught:
                way(font, 2, 10)
            self.assertEqual(caught.exception.limit, "points")
            font_with_functions = Font(64, [Glyph(0, [])], functions=[[], push(1) + [("add", 0)] * 34])
            with self.assertRaises(NoTable) as caught:
                way(font_with_functions, 0, 10)
            self.assertEqual((caught.exception.function, caught.exception.place), (1, 33))

    def test_hints_with_too_many_steps(self):
        font = Font(64, [Glyph(0, [LINE], hint=[("look", 1)] * 2000), Glyph(0, [LINE], hint=[("look", 1)] * 2001)])
        self.both(font, 0, 1)
        limits = []
        for way in (fitted, fitted_slow):
            with self.assertRaises(TooLarge) as caught:
                way(font, 1, 1)
            limits.append(caught.exception.limit)
        self.assertEqual(limits[0], limits[1])

    def test_many_hints(self):
        source = random.Random(65)
        fitted_ones = 0
        for _ in range(250):
            program = some_program(source)
            contours = [[(source.randint(-99, 99), source.randint(-99, 99), source.random() < 0.5) for _ in range(many)]
                        for many in (3, 4)]
            glyphs = [Glyph(0, contours, hint=program.main), Glyph(0, contours[:1], parts=[(0, 5, 6)], hint=program.main)]
            font = Font(source.choice((64, 100, 1000)), glyphs, functions=program.functions, presets=program.presets)
            before = copied(font)
            for number in (0, 1):
                try:
                    outline = fitted(font, number, 12)
                except (NoTable, TooLarge) as error:
                    with self.assertRaises(type(error)) as caught:
                        fitted_slow(font, number, 12)
                    self.assertEqual(vars(caught.exception), vars(error))
                    continue
                self.assertEqual(fitted_slow(font, number, 12), outline)
                self.assertEqual([[on for _, _, on in contour] for contour in outline][-2:],
                                 [[on for _, _, on in contour] for contour in contours])
                if number == 0:
                    outcome = run_program(program_of(font, 0, 12), zone_of(font, contours, 12), 5000)
                    self.assertEqual([(x, y) for contour in outline for x, y, _ in contour], outcome.current)
                fitted_ones += 1
            self.assertTrue(same_font(font, before))
        self.assertGreater(fitted_ones, 200)


if __name__ == "__main__":
    unittest.main()
