"""Points 27 to 30, and the interface of fleuron/automata.py."""

import copy
import itertools
import random
import unittest

from fleuron.automata import Automaton, build, fits, met_by, next_status, patterns, read, status_after
from fleuron.errors import TooLarge
from fleuron.fonts import Font, Glyph, Lookup, Rule, same_font
from tests.samples import font_with, small_chain, status_by_definition

SIDES = ("fore", "back")


def example():
    """Return the font of the interface's example."""
    rules = [Rule([[0], [1]], calls=[]), Rule([[0]], back=[[1]])]
    return Font(100, [Glyph(10, []), Glyph(20, [])], lookups=[Lookup("chain", rules)])


def sets_of_masks(masks):
    """Return 12 sets: in the set i are the glyphs whose mask has the bit i."""
    return [[glyph for glyph, mask in enumerate(masks) if mask >> i & 1] for i in range(12)]


def wide_font(factor, many, side):
    """Return a font of so many glyphs, whose lookup has 12 rules with the same set twice on the side.

    The number of states was counted by hand: 1, and the different masks, and their different intersections.
    """
    chosen = sets_of_masks([(g * g * factor + g * 7) % 4093 for g in range(many)])
    if side == "fore":
        rules = [Rule([one, one]) for one in chosen]
    else:
        rules = [Rule([[0]], back=[one, one]) for one in chosen]
    return Font(100, [Glyph(0, []) for _ in range(many)], lookups=[Lookup("chain", rules)])


def states_by_definition(font, side, longest):
    """Return the statuses of all rows up to a length, each once, the rows in order of length and then as lists."""
    now = patterns(font, 0, side)
    found = []
    for length in range(longest + 1):
        for row in itertools.product(range(len(font.glyphs)), repeat=length):
            status = status_by_definition(now, list(row))
            if status not in found:
                found.append(status)
    return found


class ExamplesTest(unittest.TestCase):
    def test_the_examples_of_the_interface(self):
        font = example()
        self.assertEqual(
            (patterns(font, 0, "fore"), status_after(patterns(font, 0, "fore"), [0])), ([[[0], [1]], [[0]]], [1, 1])
        )
        automaton = build(font, 0)
        self.assertEqual((met_by(automaton, "fore", [0, 1, 1]), met_by(automaton, "back", [1])), ([0, 1], [0, 1]))


class AutomatonTest(unittest.TestCase):
    def test_the_sides_are_copied(self):
        fore, back = ([[0, 1], [1, 1]], [[], [0]]), ([[0, 0]], [[0]])
        automaton = Automaton(fore, back)
        for rows, met in (fore, back):
            rows[0].append(5)
            rows.append([7])
            met[0].append(9)
            met.append([3])
        self.assertEqual(automaton.fore, ([[0, 1], [1, 1]], [[], [0]]))
        self.assertEqual(automaton.back, ([[0, 0]], [[0]]))

    def test_the_sides_stay_apart(self):
        automaton = Automaton(([[1, 0], [1, 1]], [[], [1]]), ([[0, 0]], [[0]]))
        self.assertEqual((read(automaton, "fore", [0]), read(automaton, "back", [0])), (1, 0))
        self.assertEqual((met_by(automaton, "fore", [0]), met_by(automaton, "back", [0])), ([1], [0]))


class PatternsTest(unittest.TestCase):
    def test_fore_and_back(self):
        rules = [Rule([[0], [1, 2]], back=[[3], [4]], ahead=[[5]]), Rule([[6]]), Rule([[0]], back=[[1]], ahead=[[2]])]
        font = font_with(Lookup("chain", rules))
        self.assertEqual(patterns(font, 0, "fore"), [[[0], [1, 2], [5]], [[6]], [[0], [2]]])
        self.assertEqual(patterns(font, 0, "back"), [[[3], [4]], [], [[1]]])

    def test_each_kind_that_replaces(self):
        font = font_with(
            Lookup("single", [Rule([[0]], out=[1])]), Lookup("multiple", [Rule([[0, 1]])]),
            Lookup("ligature", [Rule([[0], [1], [2]], out=[1])]), Lookup("chain", []),
            Lookup("reverse", [Rule([[0]], back=[[1]], ahead=[[2], [3]], out=[4])]),
        )
        self.assertEqual([patterns(font, k, "fore") for k in range(5)],
                         [[[[0]]], [[[0, 1]]], [[[0], [1], [2]]], [], [[[0], [2], [3]]]])
        self.assertEqual([patterns(font, k, "back") for k in range(5)], [[[]], [[]], [[]], [], [[[1]]]])

    def test_what_is_returned_is_new(self):
        font = example()
        for side in SIDES:
            found = patterns(font, 0, side)
            for pattern in found:
                for chosen in pattern:
                    chosen.append(9)
                pattern.append([8])
            found.append([])
        self.assertTrue(same_font(font, example()))


class StatusTest(unittest.TestCase):
    NOW = [[[0], [1], [2]], [[0, 1]], [], [[1], [1]]]

    def test_some_rows(self):
        cases = {
            (): [0, 0, 0, 0],
            (0,): [1, 1, 0, -1],
            (0, 1): [2, 1, 0, -1],
            (0, 1, 2): [3, 1, 0, -1],
            (0, 1, 2, 0, 0): [3, 1, 0, -1],
            (0, 0): [-1, 1, 0, -1],
            (1,): [-1, 1, 0, 1],
            (1, 1): [-1, 1, 0, 2],
            (1, 1, 0): [-1, 1, 0, 2],
            (2,): [-1, -1, 0, -1],
            (2, 0, 1): [-1, -1, 0, -1],
        }
        for row, expected in cases.items():
            self.assertEqual(status_after(self.NOW, list(row)), expected)

    def test_one_glyph_more(self):
        now = [[[0], [1]], [[0], [1]], [[0], [1]], [[0], [1]], []]
        self.assertEqual(next_status(now, [0, 1, 2, -1, 0], 0), [1, -1, 2, -1, 0])
        self.assertEqual(next_status(now, [0, 1, 2, -1, 0], 1), [-1, 2, 2, -1, 0])
        self.assertEqual(next_status([], [], 3), [])

    def test_all_rows_by_the_definition(self):
        source = random.Random(27)
        for _ in range(20):
            font = Font(100, [Glyph(0, []) for _ in range(3)], lookups=[small_chain(source, 3)])
            for side in SIDES:
                now = patterns(font, 0, side)
                for length in range(5):
                    for row in itertools.product(range(3), repeat=length):
                        status = status_by_definition(now, list(row))
                        self.assertEqual(status_after(now, list(row)), status)
                        for glyph in range(3):
                            longer = status_by_definition(now, list(row) + [glyph])
                            self.assertEqual(next_status(now, status, glyph), longer)

    def test_arguments_are_not_modified(self):
        now, row, status = copy.deepcopy(self.NOW), [0, 1], [0, 0, 0, 0]
        status_after(now, row).append(5)
        next_status(now, status, 0).append(5)
        self.assertEqual((now, row, status), (self.NOW, [0, 1], [0, 0, 0, 0]))


class ReadTest(unittest.TestCase):
    def test_read(self):
        automaton = Automaton(([[1, 2], [2, 0], [2, 2]], [[], [0], [0, 1]]), ([[0, 0]], [[]]))
        rows = [[], [0], [1], [0, 1], [0, 1, 0], [0, 0, 1]]
        self.assertEqual([read(automaton, "fore", row) for row in rows], [0, 1, 2, 0, 1, 2])
        self.assertEqual([met_by(automaton, "fore", row) for row in rows], [[], [0], [0, 1], [], [0], [0, 1]])
        self.assertEqual([read(automaton, "back", row) for row in rows], [0] * 6)

    def test_what_is_returned_is_new(self):
        automaton = Automaton(([[0]], [[0, 1]]), ([[0]], [[2]]))
        met_by(automaton, "fore", [0]).append(7)
        met_by(automaton, "back", []).append(7)
        self.assertEqual((met_by(automaton, "fore", [0]), met_by(automaton, "back", [])), ([0, 1], [2]))


class FitsTest(unittest.TestCase):
    GOOD = ([[0, 1], [1, 0]], [[], [0, 1]])
    BAD = {
        "fewer met than rows": ([[0, 1], [1, 0]], [[]]),
        "more met than rows": ([[0, 0]], [[], []]),
        "no state": ([], []),
        "a list of next states that is too short": ([[0], [1, 0]], [[], []]),
        "a list of next states that is too long": ([[0, 1], [1, 0, 0]], [[], []]),
        "an empty list of next states": ([[]], [[]]),
        "a next state that does not exist": ([[0, 1], [2, 0]], [[], []]),
        "a negative next state": ([[0, -1], [1, 0]], [[], []]),
        "rules that descend": ([[0, 0]], [[1, 0]]),
        "a rule twice": ([[0, 0]], [[1, 1]]),
        "a rule that does not exist": ([[0, 0]], [[2]]),
        "a negative rule": ([[0, 0]], [[-1, 0]]),
    }

    def test_automata_that_fit(self):
        font = example()
        self.assertIs(fits(font, 0, Automaton(self.GOOD, self.GOOD)), True)
        self.assertIs(fits(font, 0, Automaton(([[0, 0]], [[]]), self.GOOD)), True)
        self.assertIs(fits(font, 0, build(font, 0)), True)

    def test_a_single_reason_on_either_side(self):
        for reason, side in self.BAD.items():
            self.assertIs(fits(example(), 0, Automaton(side, self.GOOD)), False, reason)
            self.assertIs(fits(example(), 0, Automaton(self.GOOD, side)), False, reason)

    def test_another_font_and_another_lookup(self):
        automaton = Automaton(self.GOOD, self.GOOD)
        rules = [Rule([[0]]), Rule([[0]])]
        for many, count, expected in ((2, 2, True), (3, 2, False), (1, 2, False), (2, 1, False), (2, 0, False)):
            font = Font(100, [Glyph(0, []) for _ in range(many)], lookups=[Lookup("chain", rules[:count])])
            self.assertIs(fits(font, 0, automaton), expected)


class BuildTest(unittest.TestCase):
    def test_states_in_the_order_in_which_they_are_found(self):
        automaton = build(example(), 0)
        # Fore: behind nothing [0, 0], behind 0 [1, 1], behind 1 [-1, -1], behind 0 0 [-1, 1], behind 0 1 [2, 1].
        self.assertEqual(automaton.fore, ([[1, 2], [3, 4], [2, 2], [3, 3], [4, 4]], [[], [1], [], [1], [0, 1]]))
        # Back: the first rule is met by every row; behind nothing [0, 0], behind 0 [0, -1], behind 1 [0, 1].
        self.assertEqual(automaton.back, ([[1, 2], [1, 1], [2, 2]], [[0], [0], [0, 1]]))

    def test_without_rules_and_without_sets(self):
        font = Font(100, [Glyph(0, []), Glyph(0, [])], lookups=[Lookup("single", []), Lookup("single", [Rule([[1]], out=[0])])])
        self.assertEqual((build(font, 0).fore, build(font, 0).back), (([[0, 0]], [[]]), ([[0, 0]], [[]])))
        self.assertEqual(build(font, 1).back, ([[0, 0]], [[0]]))
        self.assertEqual(build(font, 1).fore, ([[1, 2], [1, 1], [2, 2]], [[], [], [0]]))

    def test_one_state_for_each_status_of_some_row(self):
        source = random.Random(30)
        for _ in range(40):
            font = Font(100, [Glyph(0, []) for _ in range(3)], lookups=[small_chain(source, 3)])
            automaton = build(font, 0)
            self.assertTrue(fits(font, 0, automaton))
            for side, (rows, met) in zip(SIDES, (automaton.fore, automaton.back)):
                found = states_by_definition(font, side, 5)
                now = patterns(font, 0, side)
                # Rows in the order of length and then as lists find the states in the order of their numbers.
                self.assertEqual(len(rows), len(found))
                for state, status in enumerate(found):
                    self.assertEqual(rows[state], [found.index(next_status(now, status, glyph)) for glyph in range(3)])
                    self.assertEqual(met[state], [k for k in range(len(now)) if status[k] == len(now[k])])

    def test_the_built_automaton_is_right(self):
        source = random.Random(29)
        for _ in range(20):
            font = Font(100, [Glyph(0, []) for _ in range(4)], lookups=[small_chain(source, 4)])
            automaton = build(font, 0)
            for side in SIDES:
                now = patterns(font, 0, side)
                for length in range(6):
                    for row in itertools.product(range(4), repeat=length):
                        status = status_by_definition(now, list(row))
                        met = [k for k in range(len(now)) if status[k] == len(now[k])]
                        self.assertEqual(met_by(automaton, side, list(row)), met)

    def test_marks_do_not_matter(self):
        rules = [Rule([[0], [6]], back=[[7]])]
        font = font_with(Lookup("chain", rules, ignore=True), Lookup("chain", rules))
        self.assertEqual((build(font, 0).fore, build(font, 0).back), (build(font, 1).fore, build(font, 1).back))
        self.assertEqual(met_by(build(font, 0), "fore", [0, 6]), [0])

    def test_500_states_and_more(self):
        self.assertEqual(len(build(wide_font(18, 48, "fore"), 0).fore[0]), 500)
        self.assertEqual(len(build(wide_font(18, 48, "back"), 0).back[0]), 500)
        for side in SIDES:
            with self.assertRaises(TooLarge) as caught:
                build(wide_font(41, 56, side), 0)
            self.assertEqual(caught.exception.limit, "states")

    def test_very_many_states_are_refused_soon(self):
        source = random.Random(31)
        def chosen():
            return sorted(source.sample(range(60), 30))
        rules = [Rule([chosen() for _ in range(4)], back=[chosen() for _ in range(3)], ahead=[chosen() for _ in range(3)])
                 for _ in range(12)]
        font = Font(100, [Glyph(0, []) for _ in range(60)], lookups=[Lookup("chain", rules)])
        self.assertRaises(TooLarge, build, font, 0)

    def test_the_font_is_not_modified(self):
        font = example()
        build(font, 0).fore[0][0].append(7)
        self.assertTrue(same_font(font, example()))


if __name__ == "__main__":
    unittest.main()
