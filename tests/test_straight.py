"""Points 62 and 63, and the interface of fleuron/straight.py."""

import copy
import random
import unittest

from fleuron.bounds import judge_tables, make_tables
from fleuron.errors import NoTable, TooLarge
from fleuron.machine import Outcome, Program, Zone, run_program
from fleuron.straight import build_code, is_code, run_code
from tests.programs import TABLE, push, some_program, some_zone

GREATEST, LEAST = 2147483647, -2147483648
ONE_TO_ONE = "negate amount down up round not value load get origin".split()
TWO_TO_ONE = "add subtract multiply divide lesser greater less atmost equal and or".split()
TWO_TO_NONE = "setvalue save move set align".split()
NUMBERED = "look go mode between".split()


def zone():
    """Return a zone with one contour of four points, of which two are touched."""
    return Zone([(0, 10), (20, 30), (40, 50), (60, 7)], [(1, 11), (22, 32), (43, 53), (64, 9)], [1, 2, 0, 3], [3])


def left(outcome):
    """Return what straight code must leave as the machine does."""
    return (outcome.original, outcome.current, outcome.touched, outcome.presets, outcome.storage, outcome.stack)


def stack_of(code, many, program=None):
    """Return the first registers behind straight code without its end."""
    return run_code(code + [("end", many)], program or Program([], presets=[7, 8], size=12), zone()).stack


class ExamplesTest(unittest.TestCase):
    def test_the_examples_of_the_interface(self):
        zone = Zone([(70, 10)], [(70, 10)], [0], [0])
        main = [("push", 0), ("push", 0), ("get", 0), ("round", 0), ("set", 0)]
        code = build_code(Program(main))
        self.assertEqual((is_code(code), run_code(code, Program(main), zone).current), (True, [(64, 10)]))
        self.assertEqual(
            (is_code([("push", 64, 1), ("end", 0)]), run_code([("push", 1, 7), ("end", 2)], Program([]), zone).stack),
            (False, [0, 7]),
        )


class IsCodeTest(unittest.TestCase):
    def assert_code(self, *steps):
        self.assertIs(is_code(list(steps) + [("end", 0)]), True, steps)

    def assert_no_code(self, *steps):
        self.assertIs(is_code(list(steps) + [("end", 0)]), False, steps)

    def test_each_word_with_its_arguments(self):
        forms = {"push": 2, "size": 1, "take": 2}
        forms.update({word: 2 for word in ONE_TO_ONE + TWO_TO_NONE})
        forms.update({word: 3 for word in TWO_TO_ONE})
        forms.update({word: 1 for word in NUMBERED})
        for word, many in forms.items():
            self.assert_code((word,) + (0,) * many)
            self.assert_code((word,) + (63,) * many)
            for other in (many - 1, many + 1):
                self.assert_no_code((word,) + (0,) * other)
        self.assertEqual(len(forms), 3 + len(TABLE) - len("push size drop copy swap jump jumpzero call repeat".split()))

    def test_registers_63_64_and_below_0(self):
        cases = [("push", 1, 9), ("size", 1), ("take", 1, 1), ("jumpzero", 1, 0), ("jumpsmall", 1, 9, 0)]
        cases += [(word, 1, 1) for word in ONE_TO_ONE + TWO_TO_NONE] + [(word, 1, 1, 1) for word in TWO_TO_ONE]
        for step in cases:
            for at in [k for k in range(1, len(step)) if step[k] == 1]:
                for register, right in ((0, True), (63, True), (64, False), (-1, False)):
                    changed = step[:at] + (register,) + step[at + 1:]
                    self.assertIs(is_code([changed, ("end", 0)]), right, changed)

    def test_numbers_may_be_any(self):
        for n in (-1, 64, 10 ** 12, -10 ** 12):
            self.assert_code(("push", 0, n))
            self.assert_code(("jumpsmall", 0, n, 0))
            for word in NUMBERED:
                self.assert_code((word, n))

    def test_words_that_straight_code_does_not_have(self):
        for word in ("drop", "copy", "swap", "call", "repeat", "none", "", "Push"):
            for many in range(4):
                self.assert_no_code((word,) + (0,) * many)
        self.assert_no_code(())
        self.assert_no_code((0, 0))
        self.assert_no_code((None, 0))

    def test_arguments_that_are_no_integers(self):
        for wrong in (None, "0", True, False, [0], (0,)):
            for step in (("push", 0, 0), ("take", 0, 0), ("look", 0), ("jump", 0), ("jumpsmall", 0, 0, 0)):
                for at in range(1, len(step)):
                    self.assert_no_code(step[:at] + (wrong,) + step[at + 1:])
            self.assertIs(is_code([("end", wrong)]), False)

    def test_jumps_to_the_end_and_behind_it(self):
        for step in (("jump",), ("jumpzero", 0), ("jumpsmall", 0, 5)):
            for skip, right in ((0, True), (1, True), (2, True), (3, False), (-1, False)):
                code = [("look", 0), step + (skip,), ("look", 0), ("look", 0), ("end", 0)]
                self.assertIs(is_code(code), right, (step, skip))

    def test_the_end(self):
        for many, right in ((0, True), (64, True), (65, False), (-1, False)):
            self.assertIs(is_code([("end", many)]), right)
        self.assertIs(is_code([]), False)
        self.assertIs(is_code([("look", 0)]), False)
        self.assertIs(is_code([("end",)]), False)
        self.assertIs(is_code([("end", 0, 0)]), False)
        self.assertIs(is_code([("end", 0), ("end", 0)]), False)
        self.assertIs(is_code([("look", 0), ("end", 0), ("look", 0)]), False)
        self.assertIs(is_code([("look", 0), ("end", 0), ("look", 0), ("end", 0)]), False)

    def test_20000_instructions_and_one_more(self):
        self.assertIs(is_code([("look", 0)] * 19999 + [("end", 0)]), True)
        self.assertIs(is_code([("look", 0)] * 20000 + [("end", 0)]), False)

    def test_nothing_is_modified(self):
        code = [("push", 1, 2), ("end", 2)]
        is_code(code)
        self.assertEqual(code, [("push", 1, 2), ("end", 2)])


class RunCodeTest(unittest.TestCase):
    def test_registers_are_0_at_first(self):
        self.assertEqual(stack_of([], 64), [0] * 64)
        self.assertEqual(stack_of([], 0), [])

    def test_push_size_and_take(self):
        self.assertEqual(stack_of([("push", 1, 5), ("size", 2), ("take", 3, 1), ("take", 1, 0)], 4), [0, 0, 12, 5])
        self.assertEqual(stack_of([("push", 63, -5), ("take", 0, 63)], 1), [-5])

    def test_numbers_are_kept(self):
        code = [("push", 0, GREATEST + 1), ("size", 1), ("push", 2, 1), ("subtract", 2, 0, 2)]
        program = Program([], size=4294967299)
        self.assertEqual(stack_of(code, 3, program), [LEAST, 3, GREATEST])
        self.assertEqual(stack_of([("push", 0, 64), ("mode", GREATEST + 1), ("push", 0, 127), ("round", 0, 0)], 1), [64])

    def test_words_with_targets(self):
        numbers = {5: -100, 6: 3, 7: 0}
        for word in ONE_TO_ONE:
            for a, n in numbers.items():
                machine = run_program(Program(push(n) + [(word, 0)], presets=[7, 8]), zone(), 9)
                self.assertEqual(stack_of([("push", a, n), (word, 9, a)], 10)[9:], machine.stack, (word, n))
        for word in TWO_TO_ONE:
            for a, n in numbers.items():
                for b, m in numbers.items():
                    code = [("push", a, n), ("push", b, m), (word, 9, a, b)]
                    machine = run_program(Program(push(n, m) + [(word, 0)]), zone(), 9)
                    self.assertEqual(stack_of(code, 10)[9:], machine.stack, (word, n, m))

    def test_a_target_may_be_read_too(self):
        self.assertEqual(stack_of([("push", 0, 5), ("negate", 0, 0)], 1), [-5])
        self.assertEqual(stack_of([("push", 0, 5), ("push", 1, 3), ("subtract", 1, 0, 1)], 2), [5, 2])
        self.assertEqual(stack_of([("push", 0, 5), ("add", 0, 0, 0)], 1), [10])

    def test_words_that_change_something_else(self):
        for word in TWO_TO_NONE:
            program = Program(push(1, 3) + [(word, 0)], presets=[7, 8])
            outcome = run_code([("push", 9, 1), ("push", 4, 3), (word, 9, 4), ("end", 0)], program, zone())
            self.assertEqual(left(outcome), left(run_program(program, zone(), 9)), word)
        for number in (0, 1, 2, 5, -1):
            main = [("look", number), ("go", number), ("mode", number), ("between", number)]
            main += push(1, 100) + [("round", 0), ("set", 0)]
            code = main[:4] + [("push", 0, 1), ("push", 1, 100), ("round", 1, 1), ("set", 0, 1), ("end", 0)]
            self.assertEqual(left(run_code(code, Program([]), zone())), left(run_program(Program(main), zone(), 9)))

    def test_jumps(self):
        marks = [("push", 1, 1), ("push", 2, 1), ("push", 3, 1)]
        self.assertEqual(stack_of([("jump", 2)] + marks, 4), [0, 0, 0, 1])
        self.assertEqual(stack_of([("jump", 0)] + marks, 4), [0, 1, 1, 1])
        self.assertEqual(stack_of([("jump", 3)] + marks, 4), [0, 0, 0, 0])
        for n, skipped in ((0, True), (1, False), (-1, False), (4294967296, True)):
            code = [("push", 0, n), ("jumpzero", 0, 2)] + marks
            self.assertEqual(stack_of(code, 4)[1:], [0, 0, 1] if skipped else [1, 1, 1])
        for n, skipped in ((-9, True), (4, True), (5, True), (6, False)):
            code = [("push", 0, n), ("jumpsmall", 0, 5, 2)] + marks
            self.assertEqual(stack_of(code, 4)[1:], [0, 0, 1] if skipped else [1, 1, 1])

    def test_the_outcome(self):
        program = Program([], presets=[GREATEST + 1], size=3)
        outcome = run_code([("push", 0, 1), ("jump", 1), ("look", 0), ("push", 1, 2), ("end", 2)], program, zone())
        self.assertIsInstance(outcome, Outcome)
        self.assertEqual((outcome.steps, outcome.peak, outcome.error), (3, 0, None))
        self.assertEqual((outcome.stack, outcome.presets, outcome.storage), ([1, 2], [LEAST], [0] * 32))
        self.assertEqual((outcome.original, outcome.current), (zone().original, zone().current))
        self.assertEqual((outcome.touched, run_code([("end", 0)], program, zone()).steps), (zone().touched, 0))

    def test_nothing_is_modified(self):
        code = [("push", 0, 1), ("setvalue", 1, 0), ("move", 0, 0), ("save", 0, 0), ("between", 0), ("end", 1)]
        program, place = Program([], presets=[5]), zone()
        before = copy.deepcopy((code, vars(program), vars(place)))
        run_code(code, program, place)
        self.assertEqual((code, vars(program), vars(place)), before)


class BuildCodeTest(unittest.TestCase):
    def check(self, program, zones):
        """Check the code of a program on zones, with other presets and sizes, too."""
        code = build_code(program)
        self.assertTrue(is_code(code))
        for presets, size in ((program.presets, program.size), ([3, -64, 130], 20), ([], 0)):
            other = Program(program.main, functions=program.functions, presets=presets, size=size)
            for place in zones:
                outcome = run_program(other, place, 5000)
                self.assertIsNone(outcome.error)
                self.assertEqual(left(run_code(code, other, place)), left(outcome))

    def test_each_word(self):
        for word, (takes, _) in TABLE.items():
            for values in ((1, 2, 3), (3, 1, 2), (-1, 0, 0), (0, 200, 1)):
                self.check(Program(push(*values) + [(word, 0)], functions=[[("look", 1)]], presets=[4, 5]), [zone()])

    def test_no_instructions(self):
        self.check(Program([]), [zone(), Zone([], [], [], [])])

    def test_a_full_stack(self):
        self.check(Program(push(*range(32)) + [("swap", 0), ("add", 0), ("copy", 0), ("swap", 0)]), [zone()])

    def test_choices(self):
        main = [("size", 0)] + push(15) + [("less", 0), ("jumpzero", 3)] + push(0, 64) + [("jump", 2)] + push(1, 128)
        main += [("move", 0)]
        self.check(Program(main, size=9), [zone()])

    def test_jumps_to_the_end(self):
        self.check(Program(push(0) + [("jumpzero", 2)] + push(1) + [("drop", 0)]), [zone()])
        self.check(Program([("jump", 2), ("none", 0), ("drop", 0)]), [zone()])

    def test_jumps_over_what_is_written_with_more_or_fewer_instructions(self):
        functions = [push(1) + [("drop", 0), ("look", 1)], [("go", 1)], []]
        for inner in (push(3) + [("repeat", 0)], [("call", 0), ("call", 1)], push(1, 2) + [("swap", 0)] + [("drop", 0)] * 2,
                      [("call", 2)], push(5) + [("repeat", 2)]):
            for n in (0, 1):
                main = push(n) + [("jumpzero", len(inner))] + inner + push(0, 0, 9) + [("set", 0), ("get", 0)]
                self.check(Program(main, functions=functions), [zone()])

    def test_repeats(self):
        functions = [push(0, 0) + [("load", 0)] + push(1) + [("add", 0), ("save", 0)]]
        for n in (-5, -1, 0, 1, 2, 15, 16, 17, 99, GREATEST, LEAST):
            self.check(Program(push(n) + [("repeat", 0)], functions=functions), [zone()])
            self.check(Program(push(7, n) + [("repeat", 0)], functions=functions), [zone()])

    def test_repeats_in_repeats(self):
        functions = [
            [("copy", 0), ("load", 0)] + push(1) + [("add", 0)] + push(2) + [("swap", 0), ("save", 0)],
            push(2, 3) + [("repeat", 0), ("drop", 0)],
            push(4) + [("repeat", 1)] + push(1) + [("repeat", 1)],
        ]
        self.check(Program(push(1, 2) + [("repeat", 0), ("call", 1)], functions=functions[:2]), [zone()])
        self.check(Program(push(2) + [("repeat", 1)], functions=functions[:2]), [zone()])
        # A function that writes over the value with which it is repeated.
        body = push(-7) + [("drop", 0)]
        self.check(Program(push(5, 3) + [("repeat", 1)], functions=[body, push(2) + [("repeat", 0)] + push(0, 1) + [
            ("move", 0)]]), [zone()])

    def test_twenty_functions_that_call_each_other(self):
        for word, before in (("call", []), ("repeat", push(1))):
            functions = [[]] + [before + [(word, k)] for k in range(19)]
            if word == "call":
                self.check(Program([("call", 19)], functions=functions), [zone()])
                functions = [push(0, 3)] + functions[1:]
                self.check(Program([("call", 19), ("move", 0)], functions=functions), [zone()])
            else:
                with self.assertRaises(NoTable):
                    build_code(Program([("call", 19)], functions=functions))
                self.check(Program([("call", 2)], functions=functions[:3]), [zone()])

    def test_what_is_never_reached(self):
        self.check(Program([("jump", 2), ("none", 0), ("call", 7)] + push(4), functions=[[("look", 1)]]), [zone()])

    def test_kept_numbers(self):
        main = push(GREATEST + 1, LEAST - 1) + [("jump", 4294967296), ("call", 4294967296), ("add", 0)]
        self.check(Program(main, functions=[[("mode", GREATEST + 1), ("push", 100), ("round", 0)]]), [zone()])

    def test_main_with_2000_and_2001_steps(self):
        self.check(Program([("look", 1)] * 2000), [zone()])
        for main, functions in (
            ([("look", 1)] * 2001, []), (push(3) + [("repeat", 0)], [[("look", 0)] * 125]),
            ([("call", 0), ("call", 0)], [[("look", 0)] * 1000]),
        ):
            with self.assertRaises(TooLarge) as caught:
                build_code(Program(main, functions=functions))
            self.assertEqual(caught.exception.limit, "steps")
        # 2 + 16 * 124 + 14 steps are 2000.
        self.check(Program(push(3) + [("repeat", 0)] + [("go", 1)] * 14, functions=[[("look", 0)] * 124]), [zone()])

    def test_functions_may_have_more_steps(self):
        self.check(Program([("look", 1)], functions=[[("look", 0)] * 2001]), [zone()])

    def test_sizes_of_2000_and_2001(self):
        # Only one of the two halves is done, so that there are fewer steps.
        for many, right in ((998, True), (999, False)):
            main = push(0) + [("jumpzero", many + 1)] + [("look", 1)] * many + [("jump", 999)] + [("go", 1)] * 999
            if right:
                self.check(Program(main), [zone()])
            else:
                with self.assertRaises(TooLarge):
                    build_code(Program(main))

    def test_sizes_with_repeats(self):
        # A function of 60 instructions, half of which are done: twice 2 + 16 * 60 is below 2000, twice 2 + 16 * 63 above.
        half = push(0) + [("jumpzero", 29)] + [("look", 1)] * 28 + [("jump", 29)] + [("go", 1)] * 29
        self.check(Program((push(9) + [("repeat", 0)]) * 2, functions=[half]), [zone()])
        # A call has the size of its function, too.
        self.check(Program([("call", 0)] * 32, functions=[half]), [zone()])
        with self.assertRaises(TooLarge):
            build_code(Program([("call", 0)] * 33, functions=[half]))
        longer = half + [("look", 0)] * 3
        with self.assertRaises(TooLarge):
            build_code(Program((push(9) + [("repeat", 0)]) * 2, functions=[longer]))

    def test_the_longest_code(self):
        functions = [[("look", 1)], push(1) + [("repeat", 0)], push(1, 2) + [("swap", 0), ("drop", 0), ("drop", 0)]]
        self.check(Program((push(2) + [("repeat", 1)]) * 6, functions=functions), [zone()])
        self.check(Program((push(2) + [("repeat", 0)]) * 111, functions=functions), [zone()])
        self.check(Program((push(2) + [("repeat", 2)]) * 24, functions=functions), [zone()])
        self.check(Program(push(2, 3) + [("swap", 0)] * 1998), [zone()])

    def test_what_making_tables_raises(self):
        for main, functions, place in (
            ([("none", 0)], [], (-1, 0)), ([], [[("call", 0)]], (0, 0)), ([], [[]] * 21, (20, 0)),
            ([("look", 0)] * 4097, [], (-1, 4096)), (push(1) + [("add", 0)], [], (-1, 1)),
        ):
            with self.assertRaises(NoTable) as caught:
                build_code(Program(main, functions=functions))
            self.assertEqual((caught.exception.function, caught.exception.place), place)

    def test_nothing_is_modified(self):
        program = Program(push(3) + [("repeat", 0)], functions=[push(1) + [("drop", 0)]], presets=[1], size=5)
        before = copy.deepcopy(vars(program))
        build_code(program)
        self.assertEqual(vars(program), before)

    def test_many_programs_and_zones(self):
        source = random.Random(63)
        built = refused = 0
        for _ in range(500):
            program = some_program(source, 4, 16)
            try:
                cost = judge_tables(program, make_tables(program))
            except NoTable:
                with self.assertRaises(NoTable):
                    build_code(program)
                refused += 1
                continue
            if cost[3] > 2000:
                with self.assertRaises(TooLarge):
                    build_code(program)
                continue
            try:
                self.check(program, [some_zone(source, many) for many in (4, 7)])
                built += 1
            except TooLarge as error:
                self.assertEqual(error.limit, "size")
        self.assertGreater(built, 250)


if __name__ == "__main__":
    unittest.main()
