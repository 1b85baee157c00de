"""Points 48 to 55, and the interface of fleuron/machine.py."""

import copy
import random
import unittest

from fleuron.machine import Machine, Outcome, Program, Zone, kept, rounded, run_program
from tests.machine_by_points import outcome_by_points

LEAST, GREATEST = -2147483648, 2147483647
# For each word how many values it takes, and how many it puts, as the table of point 53 tells.
TABLE = {
    "push": (0, 1), "drop": (1, 0), "copy": (1, 2), "swap": (2, 2), "add": (2, 1), "subtract": (2, 1),
    "multiply": (2, 1), "divide": (2, 1), "negate": (1, 1), "amount": (1, 1), "lesser": (2, 1), "greater": (2, 1),
    "down": (1, 1), "up": (1, 1), "round": (1, 1), "less": (2, 1), "atmost": (2, 1), "equal": (2, 1), "not": (1, 1),
    "and": (2, 1), "or": (2, 1), "look": (0, 0), "go": (0, 0), "mode": (0, 0), "value": (1, 1), "load": (1, 1),
    "setvalue": (2, 0), "save": (2, 0), "get": (1, 1), "origin": (1, 1), "move": (2, 0), "set": (2, 0),
    "align": (2, 0), "between": (0, 0), "jump": (0, 0), "jumpzero": (1, 0), "call": (0, 0), "repeat": (1, 0),
    "size": (0, 1),
}


def push(*values):
    """Return the instructions that push the values."""
    return [("push", value) for value in values]


def empty_zone():
    """Return a zone without points."""
    return Zone([], [], [], [])


def triangle(touched=(0, 0, 0)):
    """Return a zone with one contour of three points, whose current points are not the original ones."""
    return Zone([(0, 10), (20, 30), (40, 50)], [(1, 11), (22, 32), (43, 53)], list(touched), [2])


def stack_behind(values, word, number=0, **options):
    """Return the stack behind an instruction that finds the values on it."""
    outcome = run_program(Program(push(*values) + [(word, number)], **options), empty_zone(), 1000)
    if outcome.error is not None:
        raise AssertionError(outcome.error)
    return outcome.stack


def outcome_of(main, zone=None, steps=1000, **options):
    """Return the outcome of a program."""
    return run_program(Program(main, **options), empty_zone() if zone is None else zone, steps)


class ExamplesTest(unittest.TestCase):
    def test_the_examples_of_the_interface(self):
        zone = Zone([(70, 10)], [(70, 10)], [0], [0])
        main = [("push", 0), ("push", 0), ("get", 0), ("round", 0), ("set", 0)]
        outcome = run_program(Program(main), zone, 100)
        self.assertEqual(
            (outcome.current, outcome.touched, outcome.steps, outcome.peak, outcome.error), ([(64, 10)], [1], 5, 2, None)
        )
        self.assertEqual(run_program(Program([("push", 1), ("jumpzero", 1), ("drop", 0)]), zone, 100).error, "stack")


class KeptTest(unittest.TestCase):
    def test_numbers_at_and_beyond_the_ends(self):
        cases = {
            0: 0, -1: -1, GREATEST: GREATEST, LEAST: LEAST, GREATEST + 1: LEAST, LEAST - 1: GREATEST,
            4294967296: 0, -4294967296: 0, 4294967295: -1, 10 ** 20: 1661992960, -10 ** 20: -1661992960,
        }
        for n, expected in cases.items():
            self.assertEqual(kept(n), expected)

    def test_what_the_machine_is_given(self):
        zone = Zone([(GREATEST + 1, 5), (0, 0)], [(7, LEAST - 1), (0, 4294967297)], [0, 0], [1])
        program = Program(push(GREATEST + 2) + [("value", 4294967296), ("size", 0)], presets=[LEAST - 2, 4294967295],
                          size=4294967299)
        outcome = Machine(program, zone).outcome()
        self.assertEqual(outcome.original, [(LEAST, 5), (0, 0)])
        self.assertEqual(outcome.current, [(7, GREATEST), (0, 1)])
        self.assertEqual(outcome.presets, [GREATEST - 1, -1])
        outcome = run_program(program, zone, 2)
        self.assertEqual(outcome.stack, [0])
        self.assertEqual(run_program(program, zone, 3).stack, [0, 3])
        self.assertEqual(stack_behind([GREATEST + 1], "copy"), [LEAST, LEAST])

    def test_what_the_machine_is_given_is_not_changed_in_zone_and_program(self):
        zone = Zone([(GREATEST + 1, 5)], [(7, LEAST - 1)], [0], [0])
        program = Program(push(GREATEST + 1), functions=[push(LEAST - 1)], presets=[GREATEST + 1], size=GREATEST + 1)
        run_program(program, zone, 9)
        self.assertEqual((zone.original, zone.current), ([(GREATEST + 1, 5)], [(7, LEAST - 1)]))
        self.assertEqual((program.main, program.functions), (push(GREATEST + 1), [push(LEAST - 1)]))
        self.assertEqual((program.presets, program.size), ([GREATEST + 1], GREATEST + 1))

    def test_what_the_machine_computes(self):
        cases = [
            ((GREATEST, 1), "add", LEAST), ((LEAST, LEAST), "add", 0), ((LEAST, 1), "subtract", GREATEST),
            ((GREATEST, LEAST), "subtract", -1), ((LEAST,), "negate", LEAST), ((LEAST,), "amount", LEAST),
            ((GREATEST, 128), "multiply", -2), ((LEAST, LEAST), "multiply", 0), ((GREATEST, GREATEST), "multiply", -67108864),
            ((GREATEST, 1), "divide", -64), ((LEAST, -64), "divide", LEAST), ((GREATEST,), "up", LEAST),
            ((GREATEST,), "round", LEAST), ((GREATEST,), "down", GREATEST - 63),
        ]
        for values, word, expected in cases:
            self.assertEqual(stack_behind(values, word), [expected], (values, word))

    def test_what_the_machine_stores(self):
        zone = Zone([(0, 0)] * 3, [(GREATEST, 0), (0, 0), (5, 5)], [0] * 3, [2])
        outcome = outcome_of(push(0, 1) + [("move", 0)], zone)
        self.assertEqual(outcome.current[0], (LEAST, 0))
        outcome = outcome_of([("go", 1)] + push(0, -1) + [("move", 0)], Zone([(0, 0)], [(0, LEAST)], [0], [0]))
        self.assertEqual(outcome.current, [(0, GREATEST)])
        zone = Zone([(0, 0), (GREATEST, 0), (LEAST, 0)], [(3, 0), (GREATEST, 0), (0, 0)], [1, 0, 0], [2])
        outcome = outcome_of([("between", 0)], zone)
        self.assertEqual(outcome.current, [(3, 0), (LEAST + 2, 0), (LEAST + 3, 0)])

    def test_numbers_of_instructions(self):
        self.assertEqual(stack_behind([96], "mode", 4294967296), [96])
        # 2147483648 is kept as -2147483648, and that modulo 6 is 4.
        outcome = outcome_of([("mode", GREATEST + 1)] + push(127) + [("round", 0)])
        self.assertEqual(outcome.stack, [64])


class RoundedTest(unittest.TestCase):
    def test_the_six_modes(self):
        cases = {
            0: [0, 1, 15, 16, 31, 32, 33, 47, 48, 63, 64, 95, 96, -1, -16, -17, -32, -33, -64, -65],
            1: [0, 0, 0, 0, 0, 64, 64, 64, 64, 64, 64, 64, 128, 0, 0, 0, 0, -64, -64, -64],
            2: [32, 32, 32, 32, 32, 32, 32, 32, 32, 32, 96, 96, 96, -32, -32, -32, -32, -32, -32, -96],
            3: [0, 0, 0, 32, 32, 32, 32, 32, 64, 64, 64, 96, 96, 0, 0, -32, -32, -32, -64, -64],
            4: [0, 0, 0, 0, 0, 0, 0, 0, 0, 0, 64, 64, 64, -64, -64, -64, -64, -64, -64, -128],
            5: [0, 64, 64, 64, 64, 64, 64, 64, 64, 64, 64, 128, 128, 0, 0, 0, 0, 0, -64, -64],
        }
        for mode, expected in cases.items():
            self.assertEqual([rounded(mode, n) for n in cases[0]], expected, mode)

    def test_numbers_at_and_beyond_the_ends(self):
        self.assertEqual([rounded(mode, GREATEST) for mode in range(6)],
                         [GREATEST, LEAST, GREATEST - 31, LEAST, GREATEST - 63, LEAST])
        self.assertEqual([rounded(mode, LEAST) for mode in range(6)], [LEAST, LEAST, LEAST + 32, LEAST, LEAST, LEAST])
        self.assertEqual([rounded(mode, GREATEST + 1) for mode in range(6)], [rounded(mode, LEAST) for mode in range(6)])
        self.assertEqual([rounded(mode, 4294967296 + 33) for mode in range(6)], [33, 64, 32, 32, 0, 64])

    def test_the_mode_of_the_machine(self):
        for mode in range(6):
            for n in (-100, -32, 31, 32, 45, 70):
                outcome = outcome_of([("mode", mode)] + push(n) + [("round", 0)])
                self.assertEqual(outcome.stack, [rounded(mode, n)])
        self.assertEqual(stack_behind([32], "round"), [64])
        for number, mode in ((6, 0), (11, 5), (-1, 5), (-6, 0), (-4, 2)):
            outcome = outcome_of([("mode", number)] + push(45) + [("round", 0)])
            self.assertEqual(outcome.stack, [rounded(mode, 45)])

    def test_down_and_up_do_not_depend_on_the_mode(self):
        for mode in range(6):
            outcome = outcome_of([("mode", mode)] + push(70) + [("down", 0)] + push(70) + [("up", 0)])
            self.assertEqual(outcome.stack, [64, 128])


class ValuesTest(unittest.TestCase):
    def test_the_stack_itself(self):
        cases = [
            ((), "push", 7, [7]), ((1,), "push", -7, [1, -7]), ((1, 2), "drop", 0, [1]), ((1, 2), "copy", 0, [1, 2, 2]),
            ((1, 2, 3), "swap", 0, [1, 3, 2]),
        ]
        for values, word, number, expected in cases:
            self.assertEqual(stack_behind(values, word, number), expected)

    def test_calculations(self):
        cases = {
            "add": [(5, 3, 8), (-5, 3, -2)],
            "subtract": [(5, 3, 2), (3, 5, -2)],
            "multiply": [(128, 96, 192), (1, 63, 0), (-1, 1, -1), (-64, 65, -65), (10, 10, 1), (-10, 10, -2)],
            "divide": [(128, 64, 128), (1, 64, 1), (1, 65, 0), (-1, 65, -1), (7, -2, -224), (5, 0, 0), (-5, 0, 0), (0, 7, 0)],
            "lesser": [(5, 3, 3), (3, 5, 3), (-1, 1, -1), (4, 4, 4)],
            "greater": [(5, 3, 5), (3, 5, 5), (-1, 1, 1), (4, 4, 4)],
            "less": [(3, 5, 1), (5, 3, 0), (4, 4, 0)],
            "atmost": [(3, 5, 1), (5, 3, 0), (4, 4, 1)],
            "equal": [(3, 5, 0), (5, 3, 0), (4, 4, 1)],
            "and": [(0, 0, 0), (0, 5, 0), (-5, 0, 0), (2, 5, 1), (1, -1, 1)],
            "or": [(0, 0, 0), (0, 5, 1), (-5, 0, 1), (2, 5, 1), (1, -1, 1)],
        }
        for word, rows in cases.items():
            for a, b, expected in rows:
                stack = stack_behind([9, a, b], word)
                self.assertEqual(stack, [9, expected], word)
                self.assertIs(type(stack[1]), int)

    def test_words_of_one_value(self):
        cases = {
            "negate": [(5, -5), (-5, 5), (0, 0)], "amount": [(5, 5), (-5, 5), (0, 0)],
            "down": [(63, 0), (-1, -64), (64, 64)], "up": [(63, 64), (-1, 0), (65, 128)],
            "not": [(0, 1), (1, 0), (-3, 0)],
        }
        for word, rows in cases.items():
            for a, expected in rows:
                stack = stack_behind([9, a], word)
                self.assertEqual(stack, [9, expected], word)
                self.assertIs(type(stack[1]), int)

    def test_size(self):
        self.assertEqual(stack_behind([4], "size", size=17), [4, 17])
        self.assertEqual(stack_behind([4], "size"), [4, 0])

    def test_presets(self):
        for at, expected in ((0, 5), (2, -7), (3, 0), (100, 0), (-1, 0), (-3, 0)):
            self.assertEqual(stack_behind([at], "value", presets=[5, 6, -7]), [expected])
        for at, expected in ((0, [9, 6, -7]), (2, [5, 6, 9]), (3, [5, 6, -7]), (-1, [5, 6, -7]), (-3, [5, 6, -7])):
            outcome = outcome_of(push(at, 9) + [("setvalue", 0)], presets=[5, 6, -7])
            self.assertEqual((outcome.presets, outcome.stack, outcome.error), (expected, [], None))
        outcome = outcome_of(push(1, 8) + [("setvalue", 0)] + push(1) + [("value", 0)], presets=[5, 6])
        self.assertEqual(outcome.stack, [8])
        self.assertEqual(outcome_of(push(0) + [("value", 0)]).stack, [0])

    def test_storage(self):
        self.assertEqual(outcome_of([]).storage, [0] * 32)
        for at in (0, 31):
            outcome = outcome_of(push(at, -9) + [("save", 0)] + push(at) + [("load", 0)])
            self.assertEqual((outcome.storage[at], outcome.stack), (-9, [-9]))
            self.assertEqual(sum(outcome.storage), -9)
        for at in (32, 1000, -1, -32):
            outcome = outcome_of(push(at, -9) + [("save", 0)] + push(at) + [("load", 0)])
            self.assertEqual((outcome.storage, outcome.stack, outcome.error), ([0] * 32, [0], None))

    def test_presets_and_storage_are_not_the_same(self):
        outcome = outcome_of(push(0, 7) + [("save", 0)] + push(0, 8) + [("setvalue", 0)], presets=[1, 2])
        self.assertEqual((outcome.presets, outcome.storage[0]), ([8, 2], 7))


class PointsTest(unittest.TestCase):
    def test_get_and_origin(self):
        for axis, current, original in ((0, [1, 22, 43], [0, 20, 40]), (1, [11, 32, 53], [10, 30, 50])):
            for p in range(3):
                outcome = outcome_of([("look", axis)] + push(p) + [("get", 0)] + push(p) + [("origin", 0)], triangle())
                self.assertEqual(outcome.stack, [current[p], original[p]])
                outcome = outcome_of([("go", axis)] + push(p) + [("get", 0)] + push(p) + [("origin", 0)], triangle())
                self.assertEqual(outcome.stack, [[1, 22, 43][p], [0, 20, 40][p]])
        for p in (3, -1, -3, 1000):
            outcome = outcome_of(push(p) + [("get", 0)] + push(p) + [("origin", 0)], triangle())
            self.assertEqual((outcome.stack, outcome.error), ([0, 0], None))

    def test_axes_are_numbers_modulo_2(self):
        for number, expected in ((2, 1), (3, 11), (-1, 11), (-2, 1)):
            self.assertEqual(outcome_of([("look", number)] + push(0) + [("get", 0)], triangle()).stack, [expected])
        for number, expected in ((2, (6, 11)), (-1, (1, 16))):
            outcome = outcome_of([("go", number)] + push(0, 5) + [("move", 0)], triangle())
            self.assertEqual(outcome.current[0], expected)

    def test_move(self):
        outcome = outcome_of(push(1, -5) + [("move", 0)], triangle())
        self.assertEqual((outcome.current, outcome.touched), ([(1, 11), (17, 32), (43, 53)], [0, 1, 0]))
        outcome = outcome_of([("go", 1), ("look", 0)] + push(2, 4) + [("move", 0)], triangle())
        self.assertEqual((outcome.current, outcome.touched), ([(1, 11), (22, 32), (43, 57)], [0, 0, 2]))
        self.assertEqual(outcome.original, [(0, 10), (20, 30), (40, 50)])
        outcome = outcome_of(push(0, 0) + [("move", 0)], triangle())
        self.assertEqual((outcome.current, outcome.touched), (triangle().current, [1, 0, 0]))

    def test_touching(self):
        for axis, before, behind in ((0, 0, 1), (0, 1, 1), (0, 2, 3), (0, 3, 3), (1, 0, 2), (1, 1, 3), (1, 2, 2), (1, 3, 3)):
            zone = triangle([0, before, 0])
            outcome = outcome_of([("go", axis)] + push(1, 5) + [("move", 0)], zone)
            self.assertEqual(outcome.touched, [0, behind, 0])
            outcome = outcome_of([("go", axis), ("look", axis)] + push(1, 5) + [("set", 0)], zone)
            self.assertEqual(outcome.touched, [0, behind, 0])

    def test_set(self):
        outcome = outcome_of(push(1, -5) + [("set", 0)], triangle())
        self.assertEqual((outcome.current, outcome.touched), ([(1, 11), (-5, 32), (43, 53)], [0, 1, 0]))
        outcome = outcome_of([("go", 1), ("look", 1)] + push(1, -5) + [("set", 0)], triangle())
        self.assertEqual((outcome.current, outcome.touched), ([(1, 11), (22, -5), (43, 53)], [0, 2, 0]))
        for axes in ([("go", 1)], [("look", 1)]):
            outcome = outcome_of(axes + push(1, -5) + [("set", 0)], triangle())
            self.assertEqual((outcome.current, outcome.touched), (triangle().current, [0, 0, 0]))

    def test_align(self):
        outcome = outcome_of(push(2, 0) + [("align", 0)], triangle())
        self.assertEqual((outcome.current, outcome.touched), ([(43, 11), (22, 32), (43, 53)], [1, 0, 0]))
        outcome = outcome_of([("go", 1), ("look", 1)] + push(0, 1) + [("align", 0)], triangle())
        self.assertEqual((outcome.current, outcome.touched), ([(1, 11), (22, 11), (43, 53)], [0, 2, 0]))
        for axes in ([("go", 1)], [("look", 1)]):
            outcome = outcome_of(axes + push(2, 0) + [("align", 0)], triangle())
            self.assertEqual((outcome.current, outcome.touched), (triangle().current, [0, 0, 0]))
        outcome = outcome_of(push(1, 1) + [("align", 0)], triangle())
        self.assertEqual((outcome.current, outcome.touched), (triangle().current, [0, 1, 0]))

    def test_points_that_do_not_exist(self):
        for p in (3, 1000, -1, -3):
            for word, values in (("move", (p, 5)), ("set", (p, 5)), ("align", (p, 0)), ("align", (0, p)), ("align", (p, p))):
                outcome = outcome_of(push(*values) + [(word, 0)], triangle())
                self.assertEqual((outcome.current, outcome.touched), (triangle().current, [0, 0, 0]))
                self.assertEqual((outcome.stack, outcome.steps, outcome.error), ([], 3, None))
        outcome = outcome_of(push(0) + [("get", 0)] + push(0, 1) + [("set", 0), ("between", 0)])
        self.assertEqual((outcome.current, outcome.stack, outcome.error), ([], [0], None))


class BetweenTest(unittest.TestCase):
    def xs(self, original, current, touched, ends, axis=0):
        """Return the coordinates behind the instruction; the others stay 7."""
        def placed(row):
            return [(n, 7) if axis == 0 else (7, n) for n in row]

        digits = [n * (axis + 1) for n in touched]
        zone = Zone(placed(original), placed(current), digits, ends)
        outcome = outcome_of([("between", axis)], zone)
        self.assertEqual([point[1 - axis] for point in outcome.current], [7] * len(original))
        self.assertEqual((outcome.touched, outcome.original), (digits, placed(original)))
        return [point[axis] for point in outcome.current]

    def test_points_between(self):
        for axis in (0, 1):
            self.assertEqual(self.xs([0, 5, 10], [100, 5, 120], [1, 0, 1], [2], axis), [100, 110, 120])
            # A point on the way from b to a, around the contour, and the roles of a and b exchanged.
            self.assertEqual(self.xs([10, 5, 0], [120, 5, 100], [1, 0, 1], [2], axis), [120, 110, 100])
            self.assertEqual(self.xs([5, 0, 10], [5, 100, 120], [0, 1, 1], [2], axis), [110, 100, 120])
            self.assertEqual(self.xs([0, 10, 5], [100, 120, 5], [1, 1, 0], [2], axis), [100, 120, 110])

    def test_halves_are_rounded_up(self):
        # d is (2 * (P - A) * (change) + (B - A)) // (2 * (B - A)).
        self.assertEqual(self.xs([0, 1, 2], [0, 0, 1], [1, 0, 1], [2]), [0, 1, 1])
        self.assertEqual(self.xs([0, 1, 2], [0, 0, -1], [1, 0, 1], [2]), [0, 0, -1])
        self.assertEqual(self.xs([0, 1, 3], [0, 0, 1], [1, 0, 1], [2]), [0, 0, 1])
        self.assertEqual(self.xs([0, 2, 3], [0, 0, 1], [1, 0, 1], [2]), [0, 1, 1])

    def test_points_outside(self):
        self.assertEqual(self.xs([0, -5, 10], [100, 0, 120], [1, 0, 1], [2]), [100, 95, 120])
        self.assertEqual(self.xs([0, 15, 10], [100, 0, 130], [1, 0, 1], [2]), [100, 135, 130])
        self.assertEqual(self.xs([10, 15, 0], [130, 0, 100], [1, 0, 1], [2]), [130, 135, 100])
        # At A and at B a point goes along with these.
        self.assertEqual(self.xs([0, 0, 10, 10], [100, 0, 0, 133], [1, 0, 0, 1], [3]), [100, 100, 133, 133])

    def test_equal_places(self):
        # If A and B are equal, a point at most there goes along with a, one beyond it with b.
        self.assertEqual(self.xs([5, 5, 4, 6, 5], [100, 0, 0, 0, 200], [1, 0, 0, 0, 1], [4]), [100, 100, 99, 201, 200])

    def test_no_touched_point_and_one_of_them(self):
        self.assertEqual(self.xs([0, 5, 10], [3, 4, 9], [0, 0, 0], [2]), [3, 4, 9])
        self.assertEqual(self.xs([0, 5, 10], [3, 14, 9], [0, 1, 0], [2]), [9, 14, 19])
        self.assertEqual(self.xs([0, 5, 10], [3, 14, 9], [1, 1, 1], [2]), [3, 14, 9])

    def test_the_other_axis_does_not_count(self):
        zone = Zone([(0, 0), (5, 5), (10, 10)], [(50, 50), (5, 5), (70, 70)], [2, 0, 2], [2])
        self.assertEqual(outcome_of([("between", 0)], zone).current, zone.current)
        self.assertEqual(outcome_of([("between", 1)], zone).current, [(50, 50), (5, 60), (70, 70)])
        self.assertEqual(outcome_of([("between", 3)], zone).current, [(50, 50), (5, 60), (70, 70)])
        self.assertEqual(outcome_of([("between", -2)], zone).current, zone.current)
        # The axes along which the machine looks and goes do not matter.
        self.assertEqual(outcome_of([("look", 0), ("go", 0), ("between", 1)], zone).current[1], (5, 60))

    def test_each_contour_by_itself(self):
        original = [0, 5, 10, 0, 5, 10, 1, 2]
        current = [100, 5, 120, 0, 5, 10, 41, 0]
        self.assertEqual(self.xs(original, current, [1, 0, 1, 0, 0, 0, 1, 0], [2, 5, 7]), [100, 110, 120, 0, 5, 10, 41, 42])

    def test_around_the_contour(self):
        original = [4, 6, 0, 10, 8, 2]
        current = [0, 0, 100, 120, 0, 0]
        self.assertEqual(self.xs(original, current, [0, 0, 1, 1, 0, 0], [5]), [108, 112, 100, 120, 116, 104])
        # Three touched points: each point goes by its own neighbours.
        original = [0, 5, 10, 15, 20, 10]
        current = [0, 0, 20, 0, 60, 0]
        self.assertEqual(self.xs(original, current, [1, 0, 1, 0, 1, 0], [5]), [0, 10, 20, 40, 60, 30])

    def test_points_as_they_were_before(self):
        # What the untouched points are now does not matter.
        for other in (-50, 0, 999):
            self.assertEqual(self.xs([0, 2, 4, 10], [0, other, other, 20], [1, 0, 0, 1], [3]), [0, 4, 8, 20])


class StepsTest(unittest.TestCase):
    def test_single_steps(self):
        machine = Machine(Program(push(3) + [("negate", 0)]), empty_zone())
        self.assertEqual((machine.outcome().stack, machine.outcome().steps), ([], 0))
        self.assertIs(machine.step(), True)
        self.assertEqual((machine.outcome().stack, machine.outcome().steps, machine.outcome().peak), ([3], 1, 1))
        self.assertIs(machine.step(), True)
        self.assertEqual((machine.outcome().stack, machine.outcome().steps, machine.outcome().error), ([-3], 2, None))
        for _ in range(3):
            self.assertIs(machine.step(), False)
            self.assertEqual((machine.outcome().stack, machine.outcome().steps, machine.outcome().error), ([-3], 2, None))

    def test_an_error_ends_the_machine(self):
        machine = Machine(Program(push(3) + [("add", 0)] + push(4)), empty_zone())
        self.assertIs(machine.step(), True)
        self.assertIsNone(machine.outcome().error)
        for _ in range(3):
            self.assertIs(machine.step(), False)
            outcome = machine.outcome()
            self.assertEqual((outcome.stack, outcome.steps, outcome.error), ([3], 1, "stack"))

    def test_an_empty_program(self):
        self.assertIs(Machine(Program([]), empty_zone()).step(), False)
        for steps in (0, 5):
            outcome = outcome_of([], steps=steps)
            self.assertEqual((outcome.steps, outcome.error, outcome.stack, outcome.peak), (0, None, [], 0))

    def test_outcomes_stay_as_they_were(self):
        machine = Machine(Program(push(0, 5) + [("move", 0)] + push(0, 9) + [("save", 0)] + push(0, 8) + [("setvalue", 0)],
                                  presets=[1]), triangle())
        first = machine.outcome()
        before = copy.deepcopy(vars(first))
        while machine.step():
            pass
        self.assertEqual(vars(first), before)
        last = machine.outcome()
        self.assertEqual((last.current[0], last.storage[0], last.presets), ((6, 11), 9, [8]))
        for row in (last.original, last.current, last.touched, last.presets, last.storage, last.stack):
            row.append("spoiled")
        again = machine.outcome()
        self.assertEqual((again.current[0], len(again.current), len(again.storage), again.presets), ((6, 11), 3, 32, [8]))
        self.assertEqual((len(again.original), again.touched, again.stack), (3, [1, 0, 0], []))
        self.assertIsInstance(again, Outcome)

    def test_what_is_given_is_copied(self):
        original, current, touched, ends = [(0, 0)], [(1, 1)], [0], [0]
        zone = Zone(original, current, touched, ends)
        main, functions, presets = push(1) + [("call", 0)], [push(2)], [7]
        program = Program(main, functions=functions, presets=presets, size=5)
        for row in (original, current, touched, ends, main, functions[0], functions, presets):
            row.append(("drop", 0))
        self.assertEqual((zone.original, zone.current, zone.touched, zone.ends), ([(0, 0)], [(1, 1)], [0], [0]))
        self.assertEqual((program.main, program.functions), (push(1) + [("call", 0)], [push(2)]))
        self.assertEqual((program.presets, program.size), ([7], 5))
        machine = Machine(program, zone)
        for row in (zone.original, zone.current, zone.touched, zone.ends, program.main, program.functions[0],
                    program.functions, program.presets):
            row.append(("drop", 0))
        while machine.step():
            pass
        outcome = machine.outcome()
        self.assertEqual((outcome.stack, outcome.current, outcome.presets, outcome.error), ([1, 2], [(1, 1)], [7], None))

    def test_the_ends_are_copied_by_the_machine(self):
        zone = Zone([(0, 0), (5, 0), (0, 0), (5, 0)], [(9, 0), (5, 0), (0, 0), (5, 0)], [1, 0, 0, 0], [1, 3])
        machine = Machine(Program([("between", 0)]), zone)
        zone.ends[0] = 3
        machine.step()
        self.assertEqual(machine.outcome().current, [(9, 0), (14, 0), (0, 0), (5, 0)])

    def test_a_program_can_be_run_again(self):
        program, zone = Program(push(0, 5) + [("move", 0)]), triangle()
        for _ in range(2):
            self.assertEqual(run_program(program, zone, 10).current[0], (6, 11))
        self.assertEqual((zone.current[0], zone.touched), ((1, 11), [0, 0, 0]))

    def test_the_peak(self):
        outcome = outcome_of(push(1, 2, 3) + [("drop", 0)] * 3 + push(4))
        self.assertEqual((outcome.peak, outcome.stack), (3, [4]))
        outcome = outcome_of(push(1) + [("call", 0)], functions=[push(1, 2) + [("add", 0)]])
        self.assertEqual((outcome.peak, outcome.stack), (3, [1, 3]))
        self.assertEqual(outcome_of(push(1, 2) + [("swap", 0), ("copy", 0)]).peak, 3)
        self.assertEqual(outcome_of([("mode", 1)]).peak, 0)

    def test_run_program_with_enough_steps_and_with_fewer(self):
        main = push(1, 2) + [("add", 0)]
        for steps, stack, error in ((0, [], "steps"), (1, [1], "steps"), (2, [1, 2], "steps"), (3, [3], None), (4, [3], None)):
            outcome = outcome_of(main, steps=steps)
            self.assertEqual((outcome.stack, outcome.error, outcome.steps), (stack, error, min(steps, 3)))

    def test_the_error_of_the_next_instruction_is_told(self):
        for bad, error in (("drop", "stack"), ("none", "word"), ("jump", "jump"), ("call", "call")):
            main = push(1) + [("drop", 0), (bad, 1)]
            for steps, expected in ((0, "steps"), (1, "steps"), (2, error), (3, error), (100, error)):
                outcome = outcome_of(main, steps=steps)
                self.assertEqual((outcome.error, outcome.steps), (expected, min(steps, 2)))

    def test_ends_of_functions_take_no_step(self):
        functions = [[("call", 1)], [("call", 2)], []]
        outcome = outcome_of([("call", 0)], steps=3, functions=functions)
        self.assertEqual((outcome.steps, outcome.error), (3, None))
        outcome = outcome_of([("call", 0)], steps=2, functions=functions)
        self.assertEqual((outcome.steps, outcome.error), (2, "steps"))
        outcome = outcome_of(push(16) + [("repeat", 2)], steps=2, functions=functions)
        self.assertEqual((outcome.steps, outcome.error), (2, None))


class JumpsTest(unittest.TestCase):
    def test_jump(self):
        for number, stack in ((0, [1, 2, 3]), (1, [2, 3]), (2, [3]), (3, [])):
            self.assertEqual(outcome_of([("jump", number)] + push(1, 2, 3)).stack, stack)

    def test_jumpzero(self):
        for value, stack in ((0, [3]), (1, [2, 3]), (-1, [2, 3])):
            self.assertEqual(outcome_of(push(value) + [("jumpzero", 1)] + push(2, 3)).stack, stack)

    def test_just_behind_the_last_instruction_and_further(self):
        for word, before in (("jump", []), ("jumpzero", push(0)), ("jumpzero", push(1))):
            for behind in (0, 1, 5):
                rest = push(*range(behind))
                outcome = outcome_of(before + [(word, behind)] + rest)
                self.assertIsNone(outcome.error)
                for number in (behind + 1, behind + 2, -1, LEAST, GREATEST):
                    outcome = outcome_of(before + [(word, number)] + rest)
                    self.assertEqual((outcome.error, outcome.steps), ("jump", len(before)))
                    self.assertEqual(outcome.stack, [value for _, value in before])

    def test_jumps_in_functions(self):
        outcome = outcome_of([("call", 0)] + push(5), functions=[[("jump", 1)] + push(1)])
        self.assertEqual((outcome.stack, outcome.error), ([5], None))
        outcome = outcome_of([("call", 0)] + push(5), functions=[[("jump", 2)] + push(1)])
        self.assertEqual((outcome.stack, outcome.error), ([], "jump"))

    def test_a_jump_to_the_end_of_a_repeated_function(self):
        outcome = outcome_of(push(3) + [("repeat", 0)], functions=[push(1) + [("jump", 1)] + push(2)])
        self.assertEqual((outcome.stack, outcome.steps), ([1, 1, 1], 8))


class CallsTest(unittest.TestCase):
    def test_call(self):
        outcome = outcome_of(push(1) + [("call", 1)] + push(2), functions=[push(8), push(9)])
        self.assertEqual((outcome.stack, outcome.steps), ([1, 9, 2], 4))

    def test_functions_share_everything(self):
        functions = [[("look", 1), ("go", 1), ("mode", 4)]]
        outcome = outcome_of([("call", 0)] + push(0, 0) + [("get", 0), ("round", 0), ("set", 0)], triangle([0, 0, 0]),
                             functions=functions)
        self.assertEqual((outcome.current[0], outcome.touched), ((1, 0), [2, 0, 0]))

    def test_repeat(self):
        for value, rounds in ((0, 0), (1, 1), (2, 2), (15, 15), (16, 16), (17, 16), (GREATEST, 16), (-1, 0), (LEAST, 0)):
            outcome = outcome_of(push(0, value) + [("repeat", 0)] + push(7), functions=[push(1) + [("add", 0)]])
            self.assertEqual((outcome.stack, outcome.steps, outcome.error), ([rounds, 7], 4 + 2 * rounds, None))

    def test_repeats_in_repeats(self):
        functions = [push(1) + [("add", 0)], push(3) + [("repeat", 0)], push(2) + [("repeat", 1), ("call", 0)]]
        outcome = outcome_of(push(0, 2) + [("repeat", 2)], functions=functions)
        self.assertEqual(outcome.stack, [14])

    def test_functions_that_do_not_exist(self):
        for word, before in (("call", []), ("repeat", push(0)), ("repeat", push(-5)), ("repeat", push(2))):
            for number in (1, 2, -1, LEAST):
                outcome = outcome_of(before + [(word, number)], functions=[[]])
                self.assertEqual((outcome.error, outcome.steps), ("call", len(before)))
                self.assertEqual(len(outcome.stack), len(before))
            self.assertEqual(outcome_of(before + [(word, 0)]).error, "call")
            self.assertIsNone(outcome_of(before + [(word, 0)], functions=[[]]).error)

    def test_the_twentieth_and_the_twenty_first_call(self):
        for word, before in (("call", []), ("repeat", push(1))):
            chain = [before + [(word, k + 1)] for k in range(19)]
            outcome = outcome_of(before + [(word, 0)], functions=chain + [push(9)])
            self.assertEqual((outcome.stack, outcome.error), ([9], None))
            longer = [before + [(word, k + 1)] for k in range(20)]
            outcome = outcome_of(before + [(word, 0)], functions=longer + [push(9)])
            self.assertEqual((outcome.error, outcome.steps), ("call", 20 * (len(before) + 1) + len(before)))
        # Not even a repeat that does nothing, or an empty function, can be called then.
        chain = [[("call", k + 1)] for k in range(19)]
        for last in ([("call", 20)], push(0) + [("repeat", 20)]):
            self.assertEqual(outcome_of([("call", 0)], functions=chain + [last, []]).error, "call")
            self.assertIsNone(outcome_of([("call", 1)], functions=chain + [last, []]).error)

    def test_functions_that_have_ended_do_not_count(self):
        outcome = outcome_of([("call", 0)] * 50, functions=[[("call", 1)], []])
        self.assertEqual((outcome.steps, outcome.error), (100, None))

    def test_a_function_that_calls_itself(self):
        outcome = outcome_of([("call", 0)], functions=[push(1) + [("call", 0)]])
        self.assertEqual((outcome.error, outcome.steps, outcome.stack), ("call", 40, [1] * 20))

    def test_a_repeat_counts_as_one_call(self):
        outcome = outcome_of([("call", 0)], functions=[push(16) + [("repeat", 1)], [("call", 2)], [("mode", 1)]])
        self.assertEqual((outcome.steps, outcome.error), (3 + 16 * 2, None))


class ImpossibleTest(unittest.TestCase):
    def test_each_word_with_too_few_values_and_just_enough(self):
        for word, (takes, puts) in TABLE.items():
            for have in range(takes + 1):
                outcome = outcome_of(push(*[1] * have) + [(word, 0)], functions=[[]])
                if have < takes:
                    self.assertEqual((outcome.error, outcome.steps, outcome.stack), ("stack", have, [1] * have), word)
                else:
                    self.assertEqual((outcome.error, outcome.steps, len(outcome.stack)), (None, have + 1, puts), word)

    def test_each_word_with_a_full_stack(self):
        for word, (takes, puts) in TABLE.items():
            for have in (31, 32):
                outcome = outcome_of(push(*[1] * have) + [(word, 0)], functions=[[]])
                if have - takes + puts > 32:
                    self.assertEqual((outcome.error, outcome.steps, outcome.stack), ("stack", 32, [1] * 32), word)
                else:
                    self.assertEqual((outcome.error, len(outcome.stack)), (None, have - takes + puts), word)
                self.assertEqual(outcome.peak, max(have, len(outcome.stack)))

    def test_words_that_are_not_in_the_table(self):
        for word in ("", "Push", "pop", "jumpsmall", "take", "end", "push "):
            outcome = outcome_of(push(1) + [(word, 0)])
            self.assertEqual((outcome.error, outcome.steps, outcome.stack), ("word", 1, [1]))

    def test_the_first_error_counts(self):
        self.assertEqual(outcome_of([("jumpzero", -1)]).error, "stack")
        self.assertEqual(outcome_of([("repeat", 5)]).error, "stack")
        self.assertEqual(outcome_of(push(1) + [("jumpzero", -1)]).error, "jump")
        self.assertEqual(outcome_of(push(1) + [("repeat", 5)]).error, "call")
        self.assertEqual(outcome_of([("none", -1)]).error, "word")

    def test_an_impossible_instruction_is_not_done(self):
        outcome = outcome_of(push(0) + [("move", 0)], triangle())
        self.assertEqual((outcome.current, outcome.touched, outcome.error), (triangle().current, [0, 0, 0], "stack"))


class BothMachinesTest(unittest.TestCase):
    """Random programs, compared with a machine that was written after the points a second time."""

    def code(self, source, length):
        """Return random instructions that mostly have the values that they take."""
        code, height = [], 0
        for _ in range(length):
            word = source.choice(sorted(TABLE))
            if height < TABLE[word][0] and source.random() < 0.97:
                word = "push"
            number = source.choice((0, 0, 1, 1, 2, 3, 5, -1, 40, 64, 100, -70, GREATEST, LEAST))
            if word in ("jump", "jumpzero"):
                number = source.choice((0, 1, 1, 2, 3))
            if word in ("call", "repeat"):
                number = source.choice((0, 1, 2))
            code.append((word, number))
            height += TABLE[word][1] - TABLE[word][0]
        return code

    def test_random_programs(self):
        source = random.Random(53)
        errors = {}
        for _ in range(1500):
            functions = [self.code(source, source.randrange(8)) for _ in range(3)]
            program = Program(self.code(source, source.randrange(40)), functions=functions,
                              presets=[source.randint(-99, 99) for _ in range(3)], size=12)
            original = [(source.randint(-200, 200), source.randint(-200, 200)) for _ in range(7)]
            current = [(x + source.randint(-9, 9), y + source.randint(-9, 9)) for x, y in original]
            zone = Zone(original, current, [source.randrange(4) for _ in range(7)], [2, 6])
            steps = source.choice((5, 20, 200))
            outcome = run_program(program, zone, steps)
            self.assertEqual(vars(outcome), outcome_by_points(program, zone, steps))
            errors[outcome.error] = errors.get(outcome.error, 0) + 1
        self.assertEqual(sorted(errors, key=str), [None, "call", "jump", "stack", "steps"])


if __name__ == "__main__":
    unittest.main()
