"""Points 21 to 26, and the interface of fleuron/rules.py."""

import copy
import random
import unittest

from fleuron.errors import TooLarge
from fleuron.fonts import Font, Glyph, Lookup, Rule, same_font
from fleuron.rules import apply_rules, match, matched_items, sees
from tests.samples import ADVANCES, font_with, run_of, some_lookups


def new(glyph, cluster, form=0):
    """Return the new item for a glyph."""
    return (glyph, cluster, form, ADVANCES[glyph], 0, 0)


def glyphs_behind(font, lookup, glyphs):
    """Return the glyphs of the run behind the lookup."""
    return [item[0] for item in apply_rules(font, lookup, run_of(glyphs))]


class SeesTest(unittest.TestCase):
    def test_sees(self):
        font = font_with(Lookup("single", [], ignore=True), Lookup("single", []))
        self.assertEqual([sees(font, 0, glyph) for glyph in range(8)], [True] * 6 + [False] * 2)
        self.assertEqual([sees(font, 1, glyph) for glyph in range(8)], [True] * 8)
        self.assertIs(sees(font, 0, 6), False)
        self.assertIs(sees(font, 0, 0), True)


class MatchTest(unittest.TestCase):
    def test_the_examples_of_the_interface(self):
        glyphs = [Glyph(10, []), Glyph(20, []), Glyph(30, []), Glyph(0, [], mark=True)]
        lookup = Lookup("ligature", [Rule([[0], [1]], out=[2])], ignore=True)
        font = Font(100, glyphs, lookups=[lookup])
        run = [(0, 0, 0, 10, 0, 0), (3, 1, 0, 0, 0, 0), (1, 2, 0, 20, 0, 0)]
        self.assertEqual((match(font, 0, run, 0), match(font, 0, run, 1)), (0, None))
        self.assertEqual(apply_rules(font, 0, run), [(2, 0, 0, 30, 0, 0), (3, 0, 0, 0, 0, 0)])

    def test_one_set(self):
        font = font_with(Lookup("single", [Rule([[0, 2]], out=[1, 1])]))
        run = run_of([0, 1, 2, 3])
        self.assertEqual([match(font, 0, run, at) for at in range(4)], [0, None, 0, None])
        self.assertEqual([matched_items(font, 0, run, at, 0) for at in range(4)], [[0], None, [2], None])

    def test_the_first_rule_counts(self):
        rules = [Rule([[0], [1]]), Rule([[0]]), Rule([[0, 1]])]
        font = font_with(Lookup("chain", rules))
        run = run_of([0, 1, 0])
        self.assertEqual([match(font, 0, run, at) for at in range(3)], [0, 2, 1])
        self.assertEqual([matched_items(font, 0, run, 0, rule) for rule in range(3)], [[0, 1], [0], [0]])
        self.assertEqual([matched_items(font, 0, run, 1, rule) for rule in range(3)], [None, None, [1]])

    def test_sets_inside_are_in_order(self):
        font = font_with(Lookup("ligature", [Rule([[0], [1, 2], [3]], out=[5])]))
        cases = {(0, 1, 3): [0, 1, 2], (0, 2, 3): [0, 1, 2], (0, 3, 1): None, (1, 0, 3): None, (0, 1, 2): None,
                 (0, 1): None, (0,): None}
        for glyphs, expected in cases.items():
            self.assertEqual(matched_items(font, 0, run_of(glyphs), 0, 0), expected)

    def test_marks_that_are_ignored(self):
        rule = Rule([[0], [1], [2]], out=[5])
        ignoring, seeing = Lookup("ligature", [rule], ignore=True), Lookup("ligature", [rule])
        font = font_with(ignoring, seeing)
        run = run_of([6, 0, 6, 7, 1, 6, 2, 7])
        self.assertEqual(matched_items(font, 0, run, 1, 0), [1, 4, 6])
        self.assertIsNone(matched_items(font, 1, run, 1, 0))
        run = run_of([0, 1, 2])
        self.assertEqual(matched_items(font, 1, run, 0, 0), [0, 1, 2])

    def test_an_item_that_is_not_seen_does_not_match(self):
        font = font_with(Lookup("single", [Rule([[6]], out=[7])], ignore=True), Lookup("single", [Rule([[6]], out=[7])]))
        run = run_of([0, 6])
        self.assertIsNone(match(font, 0, run, 1))
        self.assertIsNone(matched_items(font, 0, run, 1, 0))
        self.assertEqual((match(font, 1, run, 1), matched_items(font, 1, run, 1, 0)), (0, [1]))

    def test_marks_can_be_in_sets_when_they_are_seen(self):
        font = font_with(Lookup("chain", [Rule([[0], [6]], back=[[7]], ahead=[[6]])]))
        self.assertEqual(matched_items(font, 0, run_of([7, 0, 6, 6]), 1, 0), [1, 2])

    def test_ahead(self):
        font = font_with(Lookup("chain", [Rule([[0]], ahead=[[1], [2, 3]])]))
        cases = {(0, 1, 2): 0, (0, 1, 3): 0, (0, 2, 1): None, (0, 1): None, (0,): None, (0, 1, 4): None}
        for glyphs, expected in cases.items():
            self.assertEqual(match(font, 0, run_of(glyphs), 0), expected)

    def test_ahead_stands_behind_all_sets_inside(self):
        font = font_with(Lookup("chain", [Rule([[0], [1]], ahead=[[2]])]))
        self.assertEqual(matched_items(font, 0, run_of([0, 1, 2]), 0, 0), [0, 1])
        self.assertIsNone(matched_items(font, 0, run_of([0, 2, 1]), 0, 0))
        self.assertIsNone(matched_items(font, 0, run_of([0, 1]), 0, 0))

    def test_back_has_the_nearest_item_first(self):
        font = font_with(Lookup("chain", [Rule([[0]], back=[[1], [2, 3]])]))
        cases = {(2, 1, 0): 0, (3, 1, 0): 0, (1, 2, 0): None, (5, 5, 0): None, (1, 5, 0): None}
        for glyphs, expected in cases.items():
            self.assertEqual(match(font, 0, run_of(glyphs), 2), expected)
        self.assertIsNone(match(font, 0, run_of([1, 0]), 1))
        self.assertIsNone(match(font, 0, run_of([0, 1, 2]), 0))

    def test_back_and_ahead_pass_over_marks(self):
        rule = Rule([[0], [1]], back=[[2], [3]], ahead=[[4], [5]])
        font = font_with(Lookup("chain", [rule], ignore=True), Lookup("chain", [rule]))
        run = run_of([3, 6, 2, 7, 6, 0, 7, 1, 6, 4, 6, 6, 5])
        self.assertEqual(matched_items(font, 0, run, 5, 0), [5, 7])
        self.assertIsNone(matched_items(font, 1, run, 5, 0))
        self.assertEqual(matched_items(font, 1, run_of([3, 2, 0, 1, 4, 5]), 2, 0), [2, 3])

    def test_marks_at_both_ends(self):
        font = font_with(Lookup("chain", [Rule([[0]], back=[[1]]), Rule([[0]], ahead=[[1]])], ignore=True))
        self.assertIsNone(match(font, 0, run_of([6, 0, 6]), 1))
        self.assertEqual(match(font, 0, run_of([1, 6, 0, 6]), 2), 0)
        self.assertEqual(match(font, 0, run_of([6, 0, 6, 1]), 1), 1)

    def test_forms(self):
        font = font_with(Lookup("ligature", [Rule([[0], [1]], out=[2])]))
        run = run_of([0, 1], [3, 4])
        self.assertEqual(match(font, 0, run, 0, [1, 3]), 0)
        self.assertEqual(match(font, 0, run, 0, (3,)), 0)
        self.assertIsNone(match(font, 0, run, 0, [4]))
        self.assertIsNone(match(font, 0, run, 0, [0, 1, 2]))
        self.assertEqual(match(font, 0, run, 0, []), 0)
        self.assertEqual(match(font, 0, run, 0, ()), 0)
        self.assertEqual(matched_items(font, 0, run, 0, 0), [0, 1])

    def test_lookups_that_do_not_replace_match_likewise(self):
        font = font_with(Lookup("pair", [Rule([[1], [1]]), Rule([[0], [1]], extra=5)], ignore=True))
        self.assertEqual(match(font, 0, run_of([0, 6, 1]), 0), 1)
        self.assertEqual(matched_items(font, 0, run_of([0, 6, 1]), 0, 1), [0, 2])

    def test_a_lookup_without_rules(self):
        font = font_with(Lookup("single", []))
        self.assertIsNone(match(font, 0, run_of([0]), 0))


class SingleTest(unittest.TestCase):
    def test_new_items(self):
        font = font_with(Lookup("single", [Rule([[0, 2, 3]], out=[1, 4, 3])]))
        run = run_of([2, 0, 1, 3], [1, 2, 3, 4])
        self.assertEqual(apply_rules(font, 0, run), [new(4, 0, 1), new(1, 1, 2), run[2], new(3, 3, 4)])

    def test_what_was_replaced_is_not_looked_at_again(self):
        font = font_with(Lookup("single", [Rule([[0]], out=[1]), Rule([[1]], out=[2])]))
        self.assertEqual(glyphs_behind(font, 0, [0, 1, 0]), [1, 2, 1])

    def test_forms(self):
        font = font_with(Lookup("single", [Rule([[0]], out=[1])]))
        run = run_of([0, 0, 0], [1, 2, 0])
        self.assertEqual([item[0] for item in apply_rules(font, 0, run, [2, 0])], [0, 1, 1])
        self.assertEqual([item[0] for item in apply_rules(font, 0, run, [])], [1, 1, 1])
        self.assertEqual(apply_rules(font, 0, run, [4]), run)

    def test_marks(self):
        rule = Rule([[0, 6]], out=[1, 7])
        font = font_with(Lookup("single", [rule], ignore=True), Lookup("single", [rule]))
        self.assertEqual(glyphs_behind(font, 0, [0, 6]), [1, 6])
        self.assertEqual(glyphs_behind(font, 1, [0, 6]), [1, 7])

    def test_an_empty_run(self):
        font = font_with(Lookup("single", [Rule([[0]], out=[1])]), Lookup("reverse", [Rule([[0]], out=[1])]))
        self.assertEqual((apply_rules(font, 0, []), apply_rules(font, 1, [])), ([], []))


class MultipleTest(unittest.TestCase):
    def test_several_items(self):
        font = font_with(Lookup("multiple", [Rule([[0, 1]], out=[0, 2, 6])]))
        run = run_of([0, 3, 1], [1, 2, 3])
        expected = [new(0, 0, 1), new(2, 0, 1), new(6, 0, 1), run[1], new(0, 2, 3), new(2, 2, 3), new(6, 2, 3)]
        self.assertEqual(apply_rules(font, 0, run), expected)

    def test_an_empty_out_removes(self):
        font = font_with(Lookup("multiple", [Rule([[0, 6]])]))
        self.assertEqual(glyphs_behind(font, 0, [0, 0, 1, 6, 0, 2, 0]), [1, 2])
        self.assertEqual(glyphs_behind(font, 0, [0, 0, 0]), [])

    def test_an_empty_out_passes_over_marks_that_are_ignored(self):
        font = font_with(Lookup("multiple", [Rule([[0, 6]])], ignore=True))
        self.assertEqual(glyphs_behind(font, 0, [0, 6, 0, 6]), [6, 6])

    def test_one_item(self):
        font = font_with(Lookup("multiple", [Rule([[0, 1]], out=[5])]))
        self.assertEqual(apply_rules(font, 0, run_of([0, 1])), [new(5, 0), new(5, 1)])


class LigatureTest(unittest.TestCase):
    def test_two_items(self):
        font = font_with(Lookup("ligature", [Rule([[0], [1]], out=[5])]))
        run = run_of([2, 0, 1, 0], [1, 2, 3, 4])
        self.assertEqual(apply_rules(font, 0, run), [run[0], new(5, 1, 2), run[3]])

    def test_marks_that_were_passed_over(self):
        font = font_with(Lookup("ligature", [Rule([[0], [1], [2]], out=[5])], ignore=True))
        run = run_of([0, 6, 7, 1, 6, 2, 7], [1, 2, 3, 4, 3, 2, 1])
        expected = [new(5, 0, 1)]
        for index in (1, 2, 4):
            glyph, _, form, advance, x, y = run[index]
            expected.append((glyph, 0, form, advance, x, y))
        self.assertEqual(apply_rules(font, 0, run), expected + [run[6]])

    def test_the_least_cluster(self):
        font = font_with(Lookup("ligature", [Rule([[0], [1], [2]], out=[5])], ignore=True))
        run = [(0, 7, 1, 10, 0, 0), (6, 9, 2, 7, 1, 1), (1, 3, 3, 20, 0, 0), (2, 5, 4, 30, 0, 0)]
        self.assertEqual(apply_rules(font, 0, run), [new(5, 3, 1), (6, 3, 2, 7, 1, 1)])

    def test_the_walk_goes_on_behind_the_ligature(self):
        rules = [Rule([[0], [1]], out=[0]), Rule([[2], [0]], out=[4])]
        font = font_with(Lookup("ligature", rules))
        self.assertEqual(glyphs_behind(font, 0, [0, 1, 1]), [0, 1])
        self.assertEqual(glyphs_behind(font, 0, [2, 0, 1]), [4, 1])
        self.assertEqual(glyphs_behind(font, 0, [0, 1, 0, 1, 2, 0]), [0, 0, 4])

    def test_the_walk_goes_on_behind_the_marks(self):
        ligature = Lookup("ligature", [Rule([[0], [1]], out=[0]), Rule([[6], [1]], out=[4])])
        font = font_with(Lookup("ligature", ligature.rules, ignore=True))
        self.assertEqual(glyphs_behind(font, 0, [0, 6, 1, 1]), [0, 6, 1])

    def test_only_the_form_of_the_first_item_counts(self):
        font = font_with(Lookup("ligature", [Rule([[0], [0]], out=[5])]))
        run = run_of([0, 0, 0], [1, 2, 3])
        self.assertEqual(apply_rules(font, 0, run, [2]), [run[0], new(5, 1, 2)])


class ChainTest(unittest.TestCase):
    def single(self):
        return Lookup("single", [Rule([[0, 1, 2, 6]], out=[3, 4, 5, 7])])

    def test_calls(self):
        rule = Rule([[0], [1], [2]], calls=[(0, 1), (2, 1)])
        font = font_with(Lookup("chain", [rule]), self.single())
        run = run_of([0, 1, 2, 0], [1, 2, 3, 4])
        self.assertEqual(apply_rules(font, 0, run), [new(3, 0, 1), run[1], new(5, 2, 3), run[3]])

    def test_back_and_ahead(self):
        font = font_with(Lookup("chain", [Rule([[0]], back=[[1]], ahead=[[2]], calls=[(0, 1)])]), self.single())
        self.assertEqual(glyphs_behind(font, 0, [1, 0, 2, 0, 2, 1, 0]), [1, 3, 2, 0, 2, 1, 0])

    def test_back_sees_what_was_replaced(self):
        font = font_with(Lookup("chain", [Rule([[0]], back=[[1, 3]], calls=[(0, 1)])]), self.single())
        self.assertEqual(glyphs_behind(font, 0, [0, 1, 0, 0, 0]), [0, 1, 3, 3, 3])

    def test_calls_that_remove_items(self):
        remove = Lookup("multiple", [Rule([[0, 1, 2]])])
        rule = Rule([[0], [1], [2]], calls=[(0, 1), (1, 1), (2, 1)])
        font = font_with(Lookup("chain", [rule]), remove)
        self.assertEqual(glyphs_behind(font, 0, [0, 1, 2, 0, 1, 2, 3]), [3])
        font = font_with(Lookup("chain", [Rule([[0], [1]], calls=[(0, 1)])]), remove)
        self.assertEqual(glyphs_behind(font, 0, [0, 1, 0, 1, 1]), [1, 1, 1])

    def test_calls_that_put_several_in(self):
        more = Lookup("multiple", [Rule([[0]], out=[0, 0, 1]), Rule([[1]], out=[5, 4])])
        font = font_with(Lookup("chain", [Rule([[0], [1]], calls=[(0, 1), (1, 1)])]), more)
        self.assertEqual(glyphs_behind(font, 0, [0, 1, 0, 1]), [0, 0, 1, 5, 4, 0, 0, 1, 5, 4])
        self.assertEqual(apply_rules(font, 0, run_of([0, 1], [3, 4])), [
            new(0, 0, 3), new(0, 0, 3), new(1, 0, 3), new(5, 1, 4), new(4, 1, 4),
        ])

    def test_calls_of_several_lookups(self):
        more = Lookup("multiple", [Rule([[0]], out=[0, 0]), Rule([[1]])])
        font = font_with(Lookup("chain", [Rule([[0], [1], [2]], calls=[(0, 2), (1, 2), (2, 1)])]), self.single(), more)
        self.assertEqual(glyphs_behind(font, 0, [0, 1, 2, 2]), [0, 0, 5, 2])

    def test_the_first_rule_of_the_called_lookup(self):
        called = Lookup("single", [Rule([[1]], out=[5]), Rule([[0, 1]], out=[2, 3])])
        font = font_with(Lookup("chain", [Rule([[0, 1, 4]], calls=[(0, 1)])]), called)
        self.assertEqual(glyphs_behind(font, 0, [0, 1, 4]), [2, 5, 4])

    def test_a_called_lookup_that_does_not_see_the_item(self):
        called = Lookup("single", [Rule([[0, 6]], out=[3, 7])], ignore=True)
        font = font_with(Lookup("chain", [Rule([[0, 6]], calls=[(0, 1)])]), called)
        self.assertEqual(glyphs_behind(font, 0, [0, 6]), [3, 6])

    def test_marks_between_the_items_of_a_chain(self):
        more = Lookup("multiple", [Rule([[0]], out=[0, 0]), Rule([[1]])])
        font = font_with(Lookup("chain", [Rule([[0], [1], [2]], calls=[(0, 1), (1, 1), (2, 2)])], ignore=True), more,
                         self.single())
        run = run_of([0, 6, 1, 7, 2, 6])
        expected = [new(0, 0), new(0, 0), run[1], run[3], new(5, 4), run[5]]
        self.assertEqual(apply_rules(font, 0, run), expected)

    def test_any_form_counts_for_calls(self):
        font = font_with(Lookup("chain", [Rule([[0], [1]], calls=[(0, 1), (1, 1)])]), self.single())
        run = run_of([0, 1, 0, 1], [2, 3, 1, 2])
        self.assertEqual(apply_rules(font, 0, run, [2]), [new(3, 0, 2), new(4, 1, 3)] + run[2:])

    def test_the_walk_goes_on_behind_the_items_inside(self):
        rules = [Rule([[0], [1]]), Rule([[1, 2]], calls=[(0, 1)])]
        font = font_with(Lookup("chain", rules), self.single())
        self.assertEqual(glyphs_behind(font, 0, [0, 1, 1, 2]), [0, 1, 4, 5])
        rules = [Rule([[0]], ahead=[[1]], calls=[(0, 1)]), Rule([[1]], calls=[(0, 1)])]
        font = font_with(Lookup("chain", rules), self.single())
        self.assertEqual(glyphs_behind(font, 0, [0, 1]), [3, 4])

    def test_the_walk_goes_on_behind_what_calls_put_in(self):
        more = Lookup("multiple", [Rule([[0]], out=[0, 0, 1])])
        font = font_with(Lookup("chain", [Rule([[0]], calls=[(0, 1)]), Rule([[1]], calls=[(0, 2)])]), more, self.single())
        self.assertEqual(glyphs_behind(font, 0, [0, 1]), [0, 0, 1, 4])


class ReverseTest(unittest.TestCase):
    def test_it_sees_what_it_has_replaced(self):
        font = font_with(Lookup("reverse", [Rule([[0]], ahead=[[1]], out=[1])]))
        self.assertEqual(glyphs_behind(font, 0, [0, 0, 0, 1, 0]), [1, 1, 1, 1, 0])

    def test_back_sees_what_is_not_yet_replaced(self):
        font = font_with(Lookup("reverse", [Rule([[0]], back=[[0]], out=[1])]))
        self.assertEqual(glyphs_behind(font, 0, [0, 0, 0]), [0, 1, 1])

    def test_new_items(self):
        font = font_with(Lookup("reverse", [Rule([[0, 2]], out=[3, 5])]))
        run = run_of([2, 1, 0], [1, 2, 3])
        self.assertEqual(apply_rules(font, 0, run), [new(5, 0, 1), run[1], new(3, 2, 3)])

    def test_each_item_is_looked_at_once(self):
        font = font_with(Lookup("reverse", [Rule([[0]], out=[1]), Rule([[1]], out=[2])]))
        self.assertEqual(glyphs_behind(font, 0, [0, 1]), [1, 2])

    def test_forms(self):
        font = font_with(Lookup("reverse", [Rule([[0]], out=[1])]))
        run = run_of([0, 0], [1, 2])
        self.assertEqual(apply_rules(font, 0, run, [2]), [run[0], new(1, 1, 2)])

    def test_marks(self):
        rule = Rule([[0, 6]], back=[[1]], ahead=[[2]], out=[3, 7])
        font = font_with(Lookup("reverse", [rule], ignore=True), Lookup("reverse", [rule]))
        self.assertEqual(glyphs_behind(font, 0, [1, 6, 0, 7, 2]), [1, 6, 3, 7, 2])
        self.assertEqual(glyphs_behind(font, 1, [1, 6, 0, 7, 2]), [1, 6, 0, 7, 2])
        self.assertEqual(glyphs_behind(font, 1, [1, 6, 2]), [1, 7, 2])


class OtherKindsTest(unittest.TestCase):
    def test_lookups_that_do_not_replace_leave_a_run_as_it_is(self):
        rules = {"pair": Rule([[0], [0]], extra=50), "cursive": Rule([[0]]), "marks": Rule([[0], [6]])}
        run = run_of([0, 0, 6, 0], [1, 2, 3, 4])
        for kind, rule in rules.items():
            font = font_with(Lookup(kind, [rule]))
            result = apply_rules(font, 0, run)
            self.assertEqual(result, run)
            result.append("spoiled")
            self.assertEqual(run, run_of([0, 0, 6, 0], [1, 2, 3, 4]))


class LimitTest(unittest.TestCase):
    def assert_refused(self, font, run):
        """Applying lookup 0 is refused because of the length of the run."""
        with self.assertRaises(TooLarge) as caught:
            apply_rules(font, 0, run)
        self.assertEqual(caught.exception.limit, "run")

    def test_runs_of_1000_items_and_of_more(self):
        for kind, rule in (("single", Rule([[0]], out=[1])), ("reverse", Rule([[0]], out=[1])),
                           ("chain", Rule([[0]])), ("multiple", Rule([[0]], out=[1])),
                           ("ligature", Rule([[0], [1]], out=[2]))):
            font = font_with(Lookup(kind, [rule]))
            for glyph in (0, 3):
                self.assertEqual(len(apply_rules(font, 0, run_of([glyph] * 1000))), 1000)
                self.assert_refused(font, run_of([glyph] * 1001))

    def test_runs_that_grow(self):
        font = font_with(Lookup("multiple", [Rule([[0]], out=[1, 2])]))
        self.assertEqual(len(apply_rules(font, 0, run_of([0] * 500))), 1000)
        self.assert_refused(font, run_of([0] * 500 + [1]))
        self.assert_refused(font, run_of([0] * 1000))

    def test_only_the_end_of_the_walk_counts(self):
        font = font_with(Lookup("multiple", [Rule([[0]], out=[1, 2, 3]), Rule([[5]])]))
        self.assertEqual(len(apply_rules(font, 0, run_of([0] * 333 + [1] + [5] * 600))), 1000)
        self.assertEqual(apply_rules(font, 0, run_of([5] * 1500)), [])
        font = font_with(Lookup("ligature", [Rule([[0], [0]], out=[1])]))
        self.assertEqual(len(apply_rules(font, 0, run_of([0] * 2000))), 1000)
        self.assert_refused(font, run_of([0] * 2001))

    def test_lookups_that_do_not_replace_refuse_nothing(self):
        font = font_with(Lookup("pair", [Rule([[0], [0]], extra=5)]))
        self.assertEqual(apply_rules(font, 0, run_of([0] * 1001)), run_of([0] * 1001))

    def test_the_run_is_not_modified_when_it_is_refused(self):
        font = font_with(Lookup("single", [Rule([[0]], out=[1])]))
        run = run_of([0] * 1001)
        self.assert_refused(font, run)
        self.assertEqual(run, run_of([0] * 1001))


class FactsTest(unittest.TestCase):
    def test_clusters_that_do_not_descend_still_do_not(self):
        source = random.Random(26)
        for _ in range(150):
            font = font_with(*some_lookups(source))
            run = run_of([source.randrange(8) for _ in range(12)], [source.randrange(5) for _ in range(12)])
            for _ in range(3):
                lookup = source.randrange(5)
                run = apply_rules(font, lookup, run, source.sample(range(5), source.randrange(6)))
                clusters = [item[1] for item in run]
                self.assertEqual(clusters, sorted(clusters))

    def test_a_lookup_without_rules_that_match_changes_nothing(self):
        source = random.Random(27)
        for _ in range(150):
            font = font_with(*some_lookups(source))
            run = run_of([source.randrange(8) for _ in range(4)], [source.randrange(5) for _ in range(4)])
            for lookup in range(5):
                forms = source.sample(range(5), source.randrange(3))
                if all(match(font, lookup, run, at, forms) is None for at in range(4)):
                    self.assertEqual(apply_rules(font, lookup, run, forms), run)

    def test_arguments_are_not_modified(self):
        source = random.Random(28)
        for _ in range(50):
            lookups = some_lookups(source)
            font, same = font_with(*lookups), font_with(*lookups)
            run = run_of([source.randrange(8) for _ in range(12)], [source.randrange(5) for _ in range(12)])
            before = copy.deepcopy(run)
            forms = [0, 1, 2]
            for lookup in range(5):
                apply_rules(font, lookup, run, forms).append("spoiled")
                for at in range(12):
                    match(font, lookup, run, at, forms)
                    for rule in range(3):
                        matched_items(font, lookup, run, at, rule)
            self.assertEqual((run, forms), (before, [0, 1, 2]))
            self.assertTrue(same_font(font, same))

    def test_nothing_that_is_returned_is_part_of_the_font(self):
        font = font_with(Lookup("chain", [Rule([[0]], ahead=[[1]])]))
        same = font_with(Lookup("chain", [Rule([[0]], ahead=[[1]])]))
        matched_items(font, 0, run_of([0, 1]), 0, 0).append(5)
        self.assertTrue(same_font(font, same))


if __name__ == "__main__":
    unittest.main()
