"""Points 31 to 33, and the interface of fleuron/papers.py."""

import copy
import itertools
import random
import unittest

from fleuron.automata import Automaton, build, fits, met_by, next_status, patterns, read
from fleuron.errors import TooLarge
from fleuron.fonts import Font, Glyph, Lookup, Rule, same_font
from fleuron.papers import accepts_paper, make_paper
from tests.samples import small_chain, status_by_definition

SIDES = ("fore", "back")


def example():
    """Return the font of the interface's example."""
    rules = [Rule([[0], [1]], calls=[]), Rule([[0]], back=[[1]])]
    return Font(100, [Glyph(10, []), Glyph(20, [])], lookups=[Lookup("chain", rules)])


def single():
    """Return a font with one glyph and one rule, which is met behind the first glyph of every row."""
    return Font(100, [Glyph(0, [])], lookups=[Lookup("chain", [Rule([[0]])])])


def changed(source, automaton):
    """Return the automaton with a few random next states and met rules."""
    sides = []
    for rows, met in (copy.deepcopy(automaton.fore), copy.deepcopy(automaton.back)):
        for _ in range(source.randrange(3)):
            row = source.choice(rows)
            row[source.randrange(len(row))] = source.randrange(len(rows))
        if source.random() < 0.5:
            state = source.randrange(len(met))
            met[state] = [rule for rule in range(2) if source.random() < 0.5]
        sides.append((rows, met))
    return Automaton(sides[0], sides[1])


def doubled(automaton):
    """Return an automaton that does the same, with two states in place of each."""
    sides = []
    for rows, met in (automaton.fore, automaton.back):
        many = len(rows)
        twice = [[state + many for state in row] for row in rows] + rows
        sides.append((twice, met + met))
    return Automaton(sides[0], sides[1])


def first_parting_row(font, automaton, side, longest):
    """Return the first row, in the order of length and then as lists, on which automaton and rules part, or None."""
    now = patterns(font, 0, side)
    for length in range(longest + 1):
        for row in itertools.product(range(len(font.glyphs)), repeat=length):
            status = status_by_definition(now, list(row))
            met = [k for k in range(len(now)) if status[k] == len(now[k])]
            if met_by(automaton, side, list(row)) != met:
                return list(row)
    return None


class ExamplesTest(unittest.TestCase):
    def test_the_examples_of_the_interface(self):
        font = example()
        automaton = build(font, 0)
        paper = make_paper(font, 0, automaton, "fore")
        self.assertEqual((paper[0], accepts_paper(font, 0, automaton, "fore", paper[1])), ("paper", True))
        other = Automaton(([[0, 0]], [[0, 1]]), ([[0, 0]], [[0, 1]]))
        self.assertEqual(make_paper(font, 0, other, "back"), ("differ", []))


class MakeTest(unittest.TestCase):
    def test_pairs_in_the_order_in_which_they_are_found(self):
        font = example()
        automaton = build(font, 0)
        pairs = [(0, [0, 0]), (1, [1, 1]), (2, [-1, -1]), (3, [-1, 1]), (4, [2, 1])]
        self.assertEqual(make_paper(font, 0, automaton, "fore"), ("paper", pairs))
        self.assertEqual(make_paper(font, 0, automaton, "back"), ("paper", [(0, [0, 0]), (1, [0, -1]), (2, [0, 1])]))

    def test_states_that_are_reached_in_another_order(self):
        # The back side of the example, with the states 1 and 2 exchanged, and a state that is never reached.
        side = ([[2, 1], [1, 1], [2, 2], [0, 3]], [[0], [0, 1], [0], [1]])
        automaton = Automaton(side, side)
        pairs = [(0, [0, 0]), (2, [0, -1]), (1, [0, 1])]
        self.assertEqual(make_paper(example(), 0, automaton, "back"), ("paper", pairs))
        self.assertEqual(make_paper(example(), 0, automaton, "fore"), ("differ", []))

    def test_one_state_with_several_statuses(self):
        font = Font(100, [Glyph(0, [])], lookups=[Lookup("chain", [Rule([[0], [0], [0]])])])
        automaton = Automaton(([[1], [2], [3], [3]], [[], [], [], [0]]), ([[0]], [[0]]))
        expected = ("paper", [(0, [0]), (1, [1]), (2, [2]), (3, [3])])
        self.assertEqual(make_paper(font, 0, automaton, "fore"), expected)
        font = Font(100, [Glyph(0, [])] * 2, lookups=[Lookup("chain", [Rule([[0]], back=[[0], [1], [1]])])])
        # The automaton forgets that it has read a wrong glyph, and then counts anew.
        side = ([[1, 0], [1, 2], [1, 3], [3, 3]], [[], [], [], [0]])
        self.assertEqual(make_paper(font, 0, Automaton(side, side), "back"), ("differ", [0, 0, 1, 1]))

    def test_the_shortest_row_and_the_least_of_them(self):
        source = random.Random(33)
        kinds = {"paper": 0, "differ": 0}
        for _ in range(150):
            font = Font(100, [Glyph(0, [])] * 3, lookups=[small_chain(source, 3)])
            automaton = build(font, 0)
            if len(font.lookups[0].rules) >= 2:
                automaton = changed(source, automaton)
            for side in SIDES:
                kind, found = make_paper(font, 0, automaton, side)
                kinds[kind] += 1
                if kind == "differ":
                    self.assertEqual(found, first_parting_row(font, automaton, side, len(found)))
                else:
                    self.assertIsNone(first_parting_row(font, automaton, side, 5))
                    self.assertIs(accepts_paper(font, 0, automaton, side, found), True)
                    self.assert_first_ways(font, automaton, side, found)
        self.assertGreater(min(kinds.values()), 40)

    def assert_first_ways(self, font, automaton, side, pairs):
        """The pairs are those of the rows in the order of length and then as lists, each once."""
        now = patterns(font, 0, side)
        found = []
        for length in range(6):
            for row in itertools.product(range(len(font.glyphs)), repeat=length):
                pair = (read(automaton, side, list(row)), status_by_definition(now, list(row)))
                if pair not in found:
                    found.append(pair)
        self.assertEqual(pairs[:len(found)], found)

    def test_only_the_side_counts(self):
        font = example()
        right = build(font, 0)
        wrong = ([[0, 0]], [[0, 1]])
        self.assertEqual(make_paper(font, 0, Automaton(right.fore, wrong), "fore")[0], "paper")
        self.assertEqual(make_paper(font, 0, Automaton(right.fore, wrong), "back")[0], "differ")
        self.assertEqual(make_paper(font, 0, Automaton(wrong, right.back), "fore")[0], "differ")
        self.assertEqual(make_paper(font, 0, Automaton(wrong, right.back), "back")[0], "paper")

    def test_the_least_row_of_several_shortest_ones(self):
        font = Font(100, [Glyph(0, [])] * 3, lookups=[Lookup("chain", [Rule([[0], [0]])])])
        # Wrong behind 1 2, 2 0 and 2 1; not behind one glyph.
        side = ([[1, 2, 3], [4, 5, 5], [5, 5, 6], [6, 6, 5], [4, 4, 4], [5, 5, 5], [6, 6, 6]], [[]] * 4 + [[0], [], [0]])
        self.assertEqual(make_paper(font, 0, Automaton(side, side), "fore"), ("differ", [1, 2]))

    def test_2000_pairs_and_more(self):
        for many, last, expected in ((2000, [0], "paper"), (2000, [], "differ"), (2001, [0], None), (2001, [], None)):
            rows = [[min(state + 1, many - 1)] for state in range(many)]
            met = [[]] + [[0]] * (many - 2) + [last]
            automaton = Automaton((rows, met), ([[0]], [[0]]))
            if expected is None:
                with self.assertRaises(TooLarge) as caught:
                    make_paper(single(), 0, automaton, "fore")
                self.assertEqual(caught.exception.limit, "pairs")
            else:
                kind, found = make_paper(single(), 0, automaton, "fore")
                self.assertEqual((kind, len(found)), (expected, 2000 if expected == "paper" else 1999))

    def test_a_difference_ahead_of_2000_pairs_counts(self):
        many = 3000
        rows = [[min(state + 1, many - 1)] for state in range(many)]
        met = [[]] + [[0]] * (many - 1)
        met[7] = []
        self.assertEqual(make_paper(single(), 0, Automaton((rows, met), ([[0]], [[0]])), "fore"), ("differ", [0] * 7))

    def test_what_is_returned_is_new(self):
        font, automaton = example(), build(example(), 0)
        for kind, pairs in (make_paper(font, 0, automaton, side) for side in SIDES):
            for _, status in pairs:
                status.append(5)
            pairs.append("spoiled")
        same = build(example(), 0)
        self.assertEqual((automaton.fore, automaton.back), (same.fore, same.back))
        self.assertTrue(same_font(font, example()))


class AcceptTest(unittest.TestCase):
    def setUp(self):
        self.font = example()
        self.automaton = build(self.font, 0)

    def papers(self):
        """Return the sides, each with its paper."""
        return [(side, make_paper(self.font, 0, self.automaton, side)[1]) for side in SIDES]

    def test_each_pair_is_needed(self):
        for side, pairs in self.papers():
            self.assertIs(accepts_paper(self.font, 0, self.automaton, side, pairs), True)
            for k in range(len(pairs)):
                self.assertIs(accepts_paper(self.font, 0, self.automaton, side, pairs[:k] + pairs[k + 1:]), False)
            self.assertIs(accepts_paper(self.font, 0, self.automaton, side, []), False)

    def test_the_order_does_not_matter_and_pairs_may_stand_twice(self):
        for side, pairs in self.papers():
            self.assertIs(accepts_paper(self.font, 0, self.automaton, side, pairs[::-1] + pairs), True)

    def test_the_papers_of_the_sides_are_not_exchanged(self):
        fore, back = [pairs for _, pairs in self.papers()]
        self.assertIs(accepts_paper(self.font, 0, self.automaton, "back", fore), False)
        self.assertIs(accepts_paper(self.font, 0, self.automaton, "fore", back), False)

    def test_pairs_that_are_added(self):
        fore, back = [pairs for _, pairs in self.papers()]
        # Behind these the automaton counts other rules as met than those that the status tells.
        for pair in ((0, [1, 1]), (1, [0, 0]), (3, [-1, -1]), (4, [2, -1]), (4, [1, 1])):
            self.assertIs(accepts_paper(self.font, 0, self.automaton, "fore", fore + [pair]), False)
        for pair in ((0, [0, 1]), (2, [0, 0])):
            self.assertIs(accepts_paper(self.font, 0, self.automaton, "back", back + [pair]), False)
        # What is met is right here, but a pair behind it is missing.
        self.assertIs(accepts_paper(self.font, 0, self.automaton, "fore", fore + [(0, [1, 0])]), False)
        # All that must hold does so: no row leads to this pair, but only known pairs are behind it.
        self.assertIs(accepts_paper(self.font, 0, self.automaton, "fore", fore + [(2, [-1, -1])]), True)
        self.assertIs(accepts_paper(self.font, 0, self.automaton, "back", back + [(1, [0, -1])]), True)

    def test_an_added_pair_that_no_row_leads_to(self):
        side = ([[0], [1]], [[0], [0]])
        automaton = Automaton(side, side)
        font = Font(100, [Glyph(0, [])], lookups=[Lookup("chain", [Rule([[0]])])])
        self.assertIs(accepts_paper(font, 0, automaton, "back", [(0, [0]), (1, [0])]), True)
        self.assertIs(accepts_paper(font, 0, automaton, "back", [(0, [0])]), True)
        self.assertIs(accepts_paper(font, 0, automaton, "back", [(1, [0])]), False)

    def test_another_state_or_status(self):
        for side, pairs in self.papers():
            for k, (state, status) in enumerate(pairs):
                for other in range(-1, 6):
                    if other != state:
                        paper = pairs[:k] + [(other, status)] + pairs[k + 1:]
                        self.assertIs(accepts_paper(self.font, 0, self.automaton, side, paper), False)
                lengths = [len(pattern) for pattern in patterns(self.font, 0, side)]
                for another in itertools.product(range(-1, lengths[0] + 1), range(-1, lengths[1] + 1)):
                    if list(another) != status:
                        paper = pairs[:k] + [(state, list(another))] + pairs[k + 1:]
                        self.assertIs(accepts_paper(self.font, 0, self.automaton, side, paper), False)

    def test_a_state_that_does_not_exist(self):
        for side, pairs in self.papers():
            many = len(pairs)
            for state in (-1, -many, many, many + 5):
                for status in ([0, 0], [-1, -1], [1, 1]):
                    paper = pairs + [(state, status)]
                    self.assertIs(accepts_paper(self.font, 0, self.automaton, side, paper), False)
            for state, status in pairs:
                paper = pairs + [(state - many, status)]
                self.assertIs(accepts_paper(self.font, 0, self.automaton, side, paper), False)

    def test_numbers_beyond_the_lengths_raise_no_error(self):
        for side, pairs in self.papers():
            for status in ([3, 1], [-2, 1], [0, 7]):
                accepts_paper(self.font, 0, self.automaton, side, pairs + [(0, status)])

    def test_an_automaton_that_does_not_fit_has_no_accepted_paper(self):
        for side, pairs in self.papers():
            rows, met = self.automaton.fore
            for wrong in ((rows[:-1], met[:-1]), (rows, met[:-1]), ([row[:-1] for row in rows], met),
                          ([row + [0] for row in rows], met), (rows, [[-1]] + met[1:]), ([], [])):
                automaton = Automaton(wrong, self.automaton.back)
                self.assertIs(fits(self.font, 0, automaton), False)
                self.assertIs(accepts_paper(self.font, 0, automaton, side, pairs), False)

    def test_without_rules(self):
        font = Font(100, [Glyph(0, [])], lookups=[Lookup("chain", [])])
        automaton = build(font, 0)
        for side in SIDES:
            self.assertEqual(make_paper(font, 0, automaton, side), ("paper", [(0, [])]))
            self.assertIs(accepts_paper(font, 0, automaton, side, [(0, [])]), True)
            self.assertIs(accepts_paper(font, 0, automaton, side, []), False)

    def test_automata_with_more_states_than_needed(self):
        source = random.Random(31)
        for _ in range(30):
            font = Font(100, [Glyph(0, [])] * 3, lookups=[small_chain(source, 3)])
            automaton = doubled(build(font, 0))
            for side in SIDES:
                kind, pairs = make_paper(font, 0, automaton, side)
                self.assertEqual(kind, "paper")
                self.assertIs(accepts_paper(font, 0, automaton, side, pairs), True)
                if len(pairs) > 1:
                    at = source.randrange(len(pairs))
                    self.assertIs(accepts_paper(font, 0, automaton, side, pairs[:at] + pairs[at + 1:]), False)

    def test_no_paper_is_accepted_where_automaton_and_rules_part(self):
        source = random.Random(32)
        parted = 0
        for _ in range(60):
            font = Font(100, [Glyph(0, [])] * 2, lookups=[Lookup("chain", [Rule([[0], [0, 1]], back=[[1]]), Rule([[1]])])])
            automaton = changed(source, build(font, 0))
            for side in SIDES:
                now = patterns(font, 0, side)
                # The greatest paper with which every other one could be accepted: all pairs with the right rules.
                rows, met = automaton.fore if side == "fore" else automaton.back
                pairs = [
                    (state, list(status)) for state in range(len(rows))
                    for status in itertools.product(*[range(-1, len(pattern) + 1) for pattern in now])
                    if met[state] == [k for k in range(len(now)) if status[k] == len(now[k])]
                ]
                while True:
                    kept = [
                        (state, status) for state, status in pairs
                        if all((rows[state][g], next_status(now, status, g)) in pairs for g in range(2))
                    ]
                    if kept == pairs:
                        break
                    pairs = kept
                accepted = accepts_paper(font, 0, automaton, side, pairs)
                parts = first_parting_row(font, automaton, side, 6) is not None
                self.assertEqual(accepted, not parts)
                self.assertEqual(make_paper(font, 0, automaton, side)[0], "differ" if parts else "paper")
                parted += parts
        self.assertTrue(20 < parted < 100)

    def test_arguments_are_not_modified(self):
        side, pairs = self.papers()[0]
        before = copy.deepcopy(pairs)
        accepts_paper(self.font, 0, self.automaton, side, pairs)
        self.assertEqual(pairs, before)
        self.assertTrue(same_font(self.font, example()))


if __name__ == "__main__":
    unittest.main()
