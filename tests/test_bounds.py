"""Points 56 to 61, and the interface of fleuron/bounds.py."""

import copy
import random
import unittest

from fleuron.bounds import judge_table, judge_tables, make_tables
from fleuron.errors import FleuronError, NoTable
from fleuron.machine import Program, run_program
from tests.programs import TABLE, push, some_program, some_zone, wild_code


def wrong_place(main, functions=()):
    """Return the wrong place of a program, or None if there is none."""
    try:
        make_tables(Program(main, functions=functions))
    except NoTable as error:
        return (error.function, error.place)
    return None


def table_of(main, functions=()):
    """Return the least table of main."""
    return make_tables(Program(main, functions=functions))[-1]


class ExamplesTest(unittest.TestCase):
    def test_the_examples_of_the_interface(self):
        code = [("push", 1), ("push", 2), ("add", 0)]
        self.assertEqual(judge_table(code, [], [(0, 0), (1, 1), (2, 2), (1, 3)]), (0, 1, 2, 3))
        self.assertEqual(
            (judge_table(code, [], [(0, 5), (1, 6), (2, 9), (1, 10)]),
             judge_table(code, [], [(0, 0), (1, 1), (2, 2), (2, 3)])),
            ((0, 1, 2, 10), None),
        )
        self.assertEqual(
            make_tables(Program([("push", 3), ("repeat", 0)], functions=[[("push", 1), ("drop", 0)]])),
            [[(0, 0), (1, 1), (0, 2)], [(0, 0), (1, 1), (0, 34)]],
        )
        with self.assertRaises(NoTable):
            make_tables(Program([("push", 1), ("jumpzero", 1), ("push", 5)]))


class JudgeTableTest(unittest.TestCase):
    def test_no_instructions(self):
        self.assertEqual(judge_table([], [], [(0, 0)]), (0, 0, 0, 0))
        self.assertEqual(judge_table([], [], [(0, 7)]), (0, 0, 0, 7))
        for table in ([], [None], [(1, 0)], [(-1, 0)], [(0, -1)], [(0, 0), (0, 0)]):
            self.assertIsNone(judge_table([], [], table))

    def test_tables_of_other_lengths(self):
        code = push(1, 2)
        right = [(0, 0), (1, 1), (2, 2)]
        self.assertEqual(judge_table(code, [], right), (0, 2, 2, 2))
        for table in ([], right[:1], right[:2], right + [(2, 2)], right + [None]):
            self.assertIsNone(judge_table(code, [], table))

    def test_items_that_are_none(self):
        code = push(1, 2)
        for table in ([None, (1, 1), (2, 2)], [(0, 0), None, (2, 2)], [(0, 0), (1, 1), None], [(0, 0), None, None]):
            self.assertIsNone(judge_table(code, [], table))
        # What is never reached may be None, or have an item that holds.
        code = [("jump", 1), ("none", 0), ("push", 1)]
        self.assertEqual(judge_table(code, [], [(0, 0), None, (0, 1), (1, 2)]), (0, 1, 1, 2))
        self.assertIsNone(judge_table(code, [], [(0, 0), (0, 0), (0, 1), (1, 2)]))
        code = [("jump", 1), ("drop", 0), ("push", 1)]
        self.assertEqual(judge_table(code, [], [(0, 0), (1, 0), (0, 1), (1, 2)]), (0, 1, 1, 2))
        self.assertEqual(judge_table(code, [], [(0, 0), (1, 8), (0, 9), (1, 10)]), (0, 1, 1, 10))
        self.assertIsNone(judge_table(code, [], [(0, 0), (2, 0), (0, 1), (1, 2)]))
        self.assertIsNone(judge_table(code, [], [(0, 0), (1, 1), (0, 1), (1, 2)]))

    def test_the_first_height_is_0(self):
        self.assertIsNone(judge_table(push(1), [], [(1, 0), (2, 1)]))
        self.assertIsNone(judge_table(push(1), [], [(-1, 0), (0, 1)]))

    def test_heights_and_steps_that_are_off_by_one(self):
        code = push(1, 2) + [("add", 0), ("negate", 0)]
        right = [(0, 0), (1, 1), (2, 2), (1, 3), (1, 4)]
        self.assertEqual(judge_table(code, [], right), (0, 1, 2, 4))
        for at in range(5):
            for change in (-1, 1):
                table = list(right)
                table[at] = (right[at][0] + change, right[at][1])
                self.assertIsNone(judge_table(code, [], table))
                table[at] = (right[at][0], right[at][1] + change)
                if at == 4 and change == 1:
                    self.assertEqual(judge_table(code, [], table), (0, 1, 2, 5))
                else:
                    self.assertIsNone(judge_table(code, [], table))

    def test_more_steps_than_the_least_ones(self):
        code = push(1) + [("drop", 0)]
        self.assertEqual(judge_table(code, [], [(0, 0), (1, 50), (0, 70)]), (0, 0, 1, 70))
        self.assertIsNone(judge_table(code, [], [(0, 0), (1, 50), (0, 50)]))
        self.assertIsNone(judge_table(code, [], [(0, -1), (1, 50), (0, 70)]))

    def test_steps_below_0_where_nothing_leads(self):
        code = [("jump", 1), ("look", 0)]
        self.assertEqual(judge_table(code, [], [(0, 0), (0, 0), (0, 1)]), (0, 0, 0, 1))
        self.assertIsNone(judge_table(code, [], [(0, 0), (0, -1), (0, 1)]))

    def test_each_word(self):
        for word, (takes, puts) in TABLE.items():
            code = [(word, 0)]
            cost = judge_table(code, [(0, 0, 0, 0)], [(0, 0), (puts - takes, 1)])
            self.assertEqual(cost, (takes, puts - takes, max(0, puts - takes), 1), word)
            self.assertIsNone(judge_table(code, [(0, 0, 0, 0)], [(0, 0), (puts - takes + 1, 1)]), word)

    def test_words_that_are_unknown(self):
        for word in ("", "Push", "take", "jumpsmall", "end"):
            self.assertIsNone(judge_table([(word, 0)], [], [(0, 0), (0, 1)]))

    def test_needs_and_peaks(self):
        # A function that takes three values, and puts five before that.
        code = push(*[0] * 5) + [("drop", 0)] * 8
        table = [(k, k) for k in range(6)] + [(4 - k, 6 + k) for k in range(8)]
        self.assertEqual(judge_table(code, [], table), (3, -3, 5, 13))

    def test_needs_of_32_and_33(self):
        for many, cost in ((32, (32, -32, 0, 32)), (33, None)):
            code = [("drop", 0)] * many
            self.assertEqual(judge_table(code, [], [(-k, k) for k in range(many + 1)]), cost)

    def test_peaks_of_32_and_33(self):
        for many, cost in ((32, (0, 32, 32, 32)), (33, None)):
            self.assertEqual(judge_table(push(*[0] * many), [], [(k, k) for k in range(many + 1)]), cost)

    def test_steps_of_4096_and_4097(self):
        for many, cost in ((4096, (0, 0, 0, 4096)), (4097, None)):
            code = [("look", 0)] * many
            self.assertEqual(judge_table(code, [], [(0, k) for k in range(many + 1)]), cost)
            self.assertEqual(judge_table([], [], [(0, many)]), cost)

    def test_calls(self):
        costs = [(2, -1, 3, 10), (0, 0, 1, 2)]
        code = push(1, 2) + [("call", 0)]
        self.assertEqual(judge_table(code, costs, [(0, 0), (1, 1), (2, 2), (1, 13)]), (0, 1, 5, 13))
        self.assertIsNone(judge_table(code, costs, [(0, 0), (1, 1), (2, 2), (1, 12)]))
        self.assertIsNone(judge_table(code, costs, [(0, 0), (1, 1), (2, 2), (2, 13)]))
        self.assertEqual(judge_table([("call", 0)], costs, [(0, 0), (-1, 11)]), (2, -1, 3, 11))
        for number in (2, -1, -2):
            self.assertIsNone(judge_table([("call", number)], costs, [(0, 0), (-1, 11)]))
            self.assertIsNone(judge_table([("call", number)], costs, [(0, 0), (0, 3)]))
        self.assertIsNone(judge_table([("call", 0)], [], [(0, 0), (0, 1)]))

    def test_repeats(self):
        costs = [(2, 0, 3, 10), (0, 1, 1, 2), (0, 0, 0, 0)]
        code = push(1, 2, 3) + [("repeat", 0)]
        table = [(0, 0), (1, 1), (2, 2), (3, 3), (2, 164)]
        self.assertEqual(judge_table(code, costs, table), (0, 2, 5, 164))
        self.assertIsNone(judge_table(code, costs, table[:4] + [(2, 163)]))
        self.assertIsNone(judge_table(code, costs, table[:4] + [(3, 164)]))
        # The need is that behind the value which repeat takes.
        self.assertEqual(judge_table([("repeat", 0)], costs, [(0, 0), (-1, 161)]), (3, -1, 2, 161))
        self.assertEqual(judge_table([("repeat", 2)], costs, [(0, 0), (-1, 1)]), (1, -1, 0, 1))
        self.assertEqual(judge_table(push(0) + [("repeat", 2)], costs, [(0, 0), (1, 1), (0, 2)]), (0, 0, 1, 2))

    def test_a_function_with_a_change_that_is_repeated(self):
        costs = [(0, 1, 1, 2), (1, -1, 0, 1)]
        for number, change in ((0, 1), (1, -1)):
            for height in (0, change, 16 * change):
                self.assertIsNone(judge_table(push(1) + [("repeat", number)], costs, [(0, 0), (1, 1), (height, 99)]))

    def test_jumps_behind_the_last_instruction_and_one_further(self):
        for number, cost in ((1, (0, 0, 0, 1)), (2, None), (-1, None)):
            self.assertEqual(judge_table([("jump", number), ("look", 0)], [], [(0, 0), None, (0, 1)]), cost)
        code = push(0) + [("jumpzero", 2)] + push(1, 2)
        table = [(0, 0), (1, 1), (0, 2), (1, 3), (2, 4)]
        self.assertIsNone(judge_table(code, [], table))
        code = push(0) + [("jumpzero", 2)] + push(1) + [("drop", 0)]
        table = [(0, 0), (1, 1), (0, 2), (1, 3), (0, 4)]
        self.assertEqual(judge_table(code, [], table), (0, 0, 1, 4))
        for number in (3, -1):
            self.assertIsNone(judge_table(push(0) + [("jumpzero", number)] + push(1) + [("drop", 0)], [], table))

    def test_both_ways_of_a_jump_are_followed(self):
        code = push(0) + [("jumpzero", 1), ("look", 0)]
        self.assertEqual(judge_table(code, [], [(0, 0), (1, 1), (0, 2), (0, 3)]), (0, 0, 1, 3))
        self.assertIsNone(judge_table(code, [], [(0, 0), (1, 1), None, (0, 3)]))
        self.assertIsNone(judge_table(code, [], [(0, 0), (1, 1), (0, 2), (0, 2)]))
        # The place that a jumpzero of a long way skips to needs its steps, too.
        code = push(0) + [("jumpzero", 1), ("jump", 1), ("look", 0)]
        table = [(0, 0), (1, 7), (0, 8), (0, 8), (0, 9)]
        self.assertEqual(judge_table(code, [], table), (0, 0, 1, 9))
        self.assertIsNone(judge_table(code, [], table[:3] + [(0, 7), (0, 9)]))

    def test_numbers_of_instructions_are_kept(self):
        code = [("jump", 4294967297), ("none", 0)]
        self.assertEqual(judge_table(code, [], [(0, 0), None, (0, 1)]), (0, 0, 0, 1))

    def test_nothing_is_modified(self):
        code, costs, table = push(1) + [("call", 0)], [(0, 0, 0, 0)], [(0, 0), (1, 1), (1, 2)]
        before = copy.deepcopy((code, costs, table))
        judge_table(code, costs, table)
        self.assertEqual((code, costs, table), before)


class JudgeTablesTest(unittest.TestCase):
    def test_a_program(self):
        program = Program(push(3) + [("repeat", 0), ("call", 1)], functions=[push(1) + [("drop", 0)], [("call", 0)]])
        tables = [[(0, 0), (1, 1), (0, 2)], [(0, 0), (0, 3)], [(0, 0), (1, 1), (0, 34), (0, 38)]]
        self.assertEqual(judge_tables(program, tables), (0, 0, 1, 38))
        for k in range(3):
            self.assertIsNone(judge_tables(program, tables[:k] + tables[k + 1:]))
            self.assertIsNone(judge_tables(program, tables[:k] + [tables[k] + [None]] + tables[k + 1:]))
            self.assertIsNone(judge_tables(program, tables[:k] + [[]] + tables[k + 1:]))
        self.assertIsNone(judge_tables(program, tables + [[(0, 0)]]))
        self.assertIsNone(judge_tables(program, []))

    def test_the_need_of_main_is_0(self):
        self.assertIsNone(judge_tables(Program([("drop", 0)]), [[(0, 0), (-1, 1)]]))
        program = Program([("call", 0)], functions=[[("drop", 0)]])
        self.assertIsNone(judge_tables(program, [[(0, 0), (-1, 1)], [(0, 0), (-1, 2)]]))
        program = Program(push(1) + [("call", 0)], functions=[[("drop", 0)]])
        self.assertEqual(judge_tables(program, [[(0, 0), (-1, 1)], [(0, 0), (1, 1), (0, 3)]]), (0, 0, 1, 3))

    def test_functions_that_call_later_ones(self):
        tables = [[(0, 0), (0, 1)], [(0, 0)], [(0, 0)]]
        for number in (0, 1, -1):
            self.assertIsNone(judge_tables(Program([], functions=[[("call", number)], []]), tables))
        tables = [[(0, 0)], [(0, 0), (0, 1)], [(0, 0)]]
        self.assertEqual(judge_tables(Program([], functions=[[], [("call", 0)]]), tables), (0, 0, 0, 0))
        self.assertIsNone(judge_tables(Program([], functions=[[], [("call", 1)]]), tables))

    def test_a_function_that_is_not_accepted_and_not_called(self):
        self.assertIsNone(judge_tables(Program([], functions=[[("none", 0)]]), [[(0, 0), (0, 1)], [(0, 0)]]))

    def test_20_and_21_functions(self):
        for many, cost in ((20, (0, 0, 0, 1)), (21, None)):
            program = Program([("call", many - 1)], functions=[[]] * many)
            self.assertEqual(judge_tables(program, [[(0, 0)]] * many + [[(0, 0), (0, 1)]]), cost)


class MakeTablesTest(unittest.TestCase):
    def test_no_instructions(self):
        self.assertEqual(make_tables(Program([])), [[(0, 0)]])
        self.assertEqual(make_tables(Program([], functions=[[], []])), [[(0, 0)]] * 3)

    def test_items_that_are_none(self):
        code = [("jump", 2), ("none", 0), ("drop", 0)] + push(1)
        self.assertEqual(table_of(code), [(0, 0), None, None, (0, 1), (1, 2)])

    def test_the_steps_of_the_longest_way(self):
        code = push(0) + [("jumpzero", 2), ("look", 0), ("look", 0), ("go", 0)]
        self.assertEqual(table_of(code), [(0, 0), (1, 1), (0, 2), (0, 3), (0, 4), (0, 5)])
        code = push(0) + [("jumpzero", 3), ("look", 0), ("look", 0), ("jump", 1), ("look", 0), ("go", 0)]
        self.assertEqual(
            table_of(code), [(0, 0), (1, 1), (0, 2), (0, 3), (0, 4), (0, 2), (0, 5), (0, 6)]
        )

    def test_two_ways_to_one_place_with_different_heights(self):
        self.assertEqual(wrong_place(push(1) + [("jumpzero", 1)] + push(5)), (-1, 2))
        self.assertEqual(wrong_place(push(1, 1) + [("jumpzero", 1), ("drop", 0), ("look", 0)]), (-1, 3))
        # The jump comes second to the place behind it.
        code = push(1) + [("jumpzero", 2)] + push(7) + [("jump", 0), ("look", 0)]
        self.assertEqual(wrong_place(code), (-1, 3))

    def test_words_and_jumps(self):
        self.assertEqual(wrong_place([("look", 0), ("none", 0)]), (-1, 1))
        for word in ("jump", "jumpzero"):
            code = push(1) + [(word, 1)] + [("look", 0)]
            self.assertIsNone(wrong_place(code))
            for number in (2, -1):
                self.assertEqual(wrong_place(push(1) + [(word, number), ("look", 0)]), (-1, 1))
        self.assertIsNone(wrong_place([("jump", 0)]))
        self.assertEqual(wrong_place([("jump", 1)]), (-1, 0))

    def test_missing_costs(self):
        for word in ("call", "repeat"):
            for number in (1, -1):
                self.assertEqual(wrong_place(push(1) + [(word, number)], [[]]), (-1, 1))
                self.assertEqual(wrong_place([], [[], push(1) + [(word, number)]]), (1, 1))
        self.assertEqual(wrong_place([], [[("look", 0), ("call", 0)]]), (0, 1))
        self.assertEqual(wrong_place([], [[("call", 1)], []]), (0, 0))

    def test_a_function_with_a_change_that_is_repeated(self):
        self.assertEqual(wrong_place(push(1) + [("repeat", 0)], [push(1)]), (-1, 1))
        self.assertEqual(wrong_place(push(1, 1) + [("repeat", 0)], [[("drop", 0)]]), (-1, 2))
        self.assertIsNone(wrong_place(push(1, 1) + [("repeat", 0)], [[("drop", 0)] + push(1)]))
        self.assertIsNone(wrong_place(push(1) + [("call", 0)], [push(1)]))

    def test_needs(self):
        self.assertEqual(wrong_place([("look", 0), ("drop", 0)]), (-1, 1))
        self.assertEqual(wrong_place(push(1) + [("add", 0)]), (-1, 1))
        self.assertEqual(wrong_place(push(1) + [("call", 0)], [[("add", 0)]]), (-1, 1))
        self.assertEqual(wrong_place(push(1, 2) + [("repeat", 0)], [[("swap", 0)]]), (-1, 2))
        self.assertIsNone(wrong_place(push(1, 2, 3) + [("repeat", 0)], [[("swap", 0)]]))
        self.assertIsNone(wrong_place([], [[("drop", 0)] * 32]))
        self.assertEqual(wrong_place([], [[("drop", 0)] * 33]), (0, 32))
        self.assertEqual(wrong_place([], [[("drop", 0)] * 31, [("drop", 0), ("drop", 0), ("call", 0)]]), (1, 2))

    def test_peaks(self):
        self.assertIsNone(wrong_place(push(*[1] * 32)))
        self.assertEqual(wrong_place(push(*[1] * 33)), (-1, 32))
        self.assertEqual(wrong_place(push(*[1] * 32) + [("copy", 0)]), (-1, 32))
        self.assertIsNone(wrong_place(push(1, 2) + [("call", 0)], [push(*[1] * 30)]))
        self.assertEqual(wrong_place(push(1, 2, 3) + [("call", 0)], [push(*[1] * 30)]), (-1, 3))
        body = push(*[1] * 30) + [("drop", 0)] * 30
        self.assertIsNone(wrong_place(push(1, 2, 3) + [("repeat", 0)], [body]))
        self.assertEqual(wrong_place(push(1, 2, 3, 4) + [("repeat", 0)], [body]), (-1, 4))
        self.assertIsNone(wrong_place(push(1, 2) + [("call", 0)], [body]))
        self.assertEqual(wrong_place(push(1, 2, 3) + [("call", 0)], [body]), (-1, 3))

    def test_steps_of_4096_and_4097(self):
        looks = [("look", 0)]
        self.assertIsNone(wrong_place(looks * 4096))
        self.assertEqual(wrong_place(looks * 4097), (-1, 4096))
        # 1 + 1 + 16 * 255 steps are 4082.
        functions = [looks * 255]
        self.assertEqual(table_of(push(9) + [("repeat", 0)] + looks * 14, functions)[-1], (0, 4096))
        self.assertEqual(wrong_place(push(9) + [("repeat", 0)] + looks * 15, functions), (-1, 16))
        self.assertEqual(wrong_place(looks * 15 + push(9) + [("repeat", 0)], functions), (-1, 16))
        self.assertEqual(wrong_place(push(9) + [("repeat", 0)], [looks * 256]), (-1, 1))
        self.assertEqual(wrong_place([("call", 0), ("call", 0)], [looks * 2048]), (-1, 1))
        self.assertIsNone(wrong_place([("call", 0), ("call", 0)], [looks * 2047]))

    def test_what_is_never_reached_does_not_matter(self):
        self.assertIsNone(wrong_place([("jump", 3), ("none", 0), ("jump", 99), ("call", 7)]))

    def test_where_it_fails_first(self):
        self.assertEqual(wrong_place([("none", 0)], [[], [("drop", 0), ("none", 0)], [("none", 0)]]), (1, 1))
        self.assertEqual(wrong_place([("none", 0)], [[]]), (-1, 0))

    def test_20_and_21_functions(self):
        self.assertIsNone(wrong_place([("call", 19)], [[]] * 20))
        self.assertEqual(wrong_place([], [[]] * 21), (20, 0))
        self.assertEqual(wrong_place([("none", 0)], [[("none", 0)]] * 22), (20, 0))

    def test_the_error(self):
        with self.assertRaises(NoTable) as caught:
            make_tables(Program([], functions=[[], [("look", 0), ("none", 0)]]))
        self.assertIsInstance(caught.exception, FleuronError)
        self.assertEqual((caught.exception.function, caught.exception.place), (1, 1))

    def test_nothing_is_modified(self):
        program = Program(push(4294967297) + [("repeat", 0)], functions=[push(1) + [("drop", 0)]])
        before = copy.deepcopy(vars(program))
        tables = make_tables(program)
        copied = copy.deepcopy(tables)
        judge_tables(program, tables)
        self.assertEqual((vars(program), tables), (before, copied))


def made_by_ways(code, costs, most_need):
    """Return the least table and the cost, or the place where making fails, by all ways through the code."""
    ways = {0: [(0, 0)]}
    need = peak = 0
    for at, (word, number) in enumerate(code):
        if at not in ways:
            continue
        if word not in TABLE or word in ("jump", "jumpzero") and number not in range(len(code) - at):
            return at
        height, steps = ways[at][0][0], max(steps for _, steps in ways[at])
        need = max(need, TABLE[word][0] - height)
        height += TABLE[word][1] - TABLE[word][0]
        steps += 1
        if word in ("call", "repeat"):
            if number not in range(len(costs)) or word == "repeat" and costs[number][1] != 0:
                return at
            need = max(need, costs[number][0] - height)
            peak = max(peak, costs[number][2] + height)
            steps += costs[number][3] * (16 if word == "repeat" else 1)
            height += costs[number][1]
        peak = max(peak, height)
        nexts = {"jump": [at + 1 + number], "jumpzero": [at + 1, at + 1 + number]}.get(word, [at + 1])
        for place in nexts:
            ways.setdefault(place, []).append((height, steps))
            if len({height for height, _ in ways[place]}) > 1:
                return at
        if need > most_need or peak > 32 or steps > 4096:
            return at
    table = [(ways[at][0][0], max(s for _, s in ways[at])) if at in ways else None for at in range(len(code) + 1)]
    return table, (need, table[-1][0], peak, table[-1][1])


def program_by_ways(program):
    """Return the tables and the cost of main, or the wrong place."""
    tables, costs = [], []
    codes = [(k, code, 32) for k, code in enumerate(program.functions)] + [(-1, program.main, 0)]
    for number, code, most_need in codes:
        made = made_by_ways(code, costs, most_need)
        if isinstance(made, int):
            return (number, made)
        tables.append(made[0])
        costs.append(made[1])
    return tables, costs[-1]


class ManyProgramsTest(unittest.TestCase):
    def programs(self):
        """Return random programs, with and without accepted tables."""
        source = random.Random(61)
        programs = [some_program(source) for _ in range(400)]
        for _ in range(1200):
            functions = [wild_code(source, source.randrange(4)) for _ in range(3)]
            programs.append(Program(wild_code(source, source.randrange(8)), functions=functions, size=12))
        return programs

    def test_tables_and_costs_by_all_ways(self):
        right = wrong = 0
        for program in self.programs():
            expected = program_by_ways(program)
            try:
                tables = make_tables(program)
                self.assertEqual((tables, judge_tables(program, tables)), expected)
                right += 1
            except NoTable as error:
                self.assertEqual((error.function, error.place), expected)
                wrong += 1
        self.assertGreater(right, 300)
        self.assertGreater(wrong, 300)

    def test_the_machine_keeps_to_the_cost(self):
        source = random.Random(60)
        longest = 0
        for _ in range(300):
            program = some_program(source)
            try:
                tables = make_tables(program)
            except NoTable:
                continue
            need, change, peak, steps = judge_tables(program, tables)
            outcome = run_program(program, some_zone(source), 5000)
            self.assertEqual((need, outcome.error, len(outcome.stack)), (0, None, change))
            self.assertLessEqual(outcome.peak, peak)
            self.assertLessEqual(outcome.steps, steps)
            longest += outcome.steps == steps
        self.assertGreater(longest, 50)

    def test_no_accepted_table_is_below_the_least_one(self):
        source = random.Random(57)
        accepted = 0
        for program in self.programs():
            try:
                tables = make_tables(program)
            except NoTable:
                continue
            least = tables[-1]
            others = []
            for _ in range(6):
                table = list(least)
                at = source.randrange(len(table))
                item = table[at] or (0, 0)
                table[at] = source.choice((None, (item[0], item[1] + source.choice((-1, 1))), (item[0] + 1, item[1])))
                others.append(table)
            for table in others:
                if judge_tables(program, tables[:-1] + [table]) is not None:
                    accepted += 1
                    for item, low in zip(table, least):
                        self.assertTrue(low is None or item is not None and item[0] == low[0] and item[1] >= low[1])
        self.assertGreater(accepted, 50)


if __name__ == "__main__":
    unittest.main()
