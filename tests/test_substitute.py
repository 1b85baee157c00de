"""Points 25 and 34, and the interface of fleuron/substitute.py."""

import copy
import random
import unittest

from fleuron.errors import TooLarge
from fleuron.fonts import Font, Glyph, Lookup, Rule, same_font
from fleuron.rules import apply_rules, match
from fleuron.substitute import Engine
from tests.samples import ADVANCES, font_with, run_of, some_lookups


def new(glyph, cluster, form=0):
    """Return the new item for a glyph."""
    return (glyph, cluster, form, ADVANCES[glyph], 0, 0)


def glyphs_behind(font, lookup, glyphs):
    """Return the glyphs of the run behind the lookup."""
    return [item[0] for item in Engine(font).apply(lookup, run_of(glyphs))]


def font_of_many_states():
    """Return a font whose second lookup would have more than 500 states."""
    source = random.Random(34)
    rules = [Rule([sorted(source.sample(range(60), 30)) for _ in range(4)], out=[0]) for _ in range(12)]
    lookups = [Lookup("single", [Rule([[0]], out=[1])]), Lookup("ligature", rules)]
    return Font(100, [Glyph(k, []) for k in range(60)], lookups=lookups)


class ExamplesTest(unittest.TestCase):
    def test_the_examples_of_the_interface(self):
        rules = [Rule([[0], [1]], calls=[]), Rule([[0]], back=[[1]])]
        font = Font(100, [Glyph(10, []), Glyph(20, [])], lookups=[Lookup("chain", rules)])
        self.assertEqual(Engine(font).first_rule(0, [(1, 0, 0, 20, 0, 0), (0, 1, 0, 10, 0, 0)], 1), 1)


class FirstRuleTest(unittest.TestCase):
    def test_the_least_rule_that_is_met_on_both_sides(self):
        rules = [Rule([[0]], back=[[1]], ahead=[[1]]), Rule([[0]], back=[[1]]), Rule([[0]], ahead=[[1]]), Rule([[0]])]
        engine = Engine(font_with(Lookup("chain", rules)))
        cases = {(1, 0, 1): 0, (1, 0, 2): 1, (2, 0, 1): 2, (2, 0, 2): 3, (1, 2, 1): None}
        for glyphs, expected in cases.items():
            self.assertEqual(engine.first_rule(0, run_of(glyphs), 1), expected)

    def test_ends_of_the_run(self):
        rules = [Rule([[0], [0]]), Rule([[0]], back=[[1], [2]]), Rule([[0]], back=[[1]])]
        engine = Engine(font_with(Lookup("chain", rules)))
        self.assertEqual([engine.first_rule(0, run_of([0, 0]), at) for at in range(2)], [0, None])
        self.assertEqual(engine.first_rule(0, run_of([1, 0]), 1), 2)
        self.assertEqual(engine.first_rule(0, run_of([2, 1, 0]), 2), 1)

    def test_items_that_are_passed_over(self):
        rule = Rule([[0], [1]], back=[[2], [3]], ahead=[[4], [5]])
        engine = Engine(font_with(Lookup("chain", [rule], ignore=True), Lookup("chain", [rule])))
        run = run_of([6, 3, 6, 2, 7, 6, 0, 7, 1, 6, 4, 6, 6, 5, 7])
        self.assertEqual([engine.first_rule(0, run, at) for at in range(15)], [None] * 6 + [0] + [None] * 8)
        self.assertEqual([engine.first_rule(1, run, at) for at in range(15)], [None] * 15)

    def test_an_item_that_is_not_seen(self):
        rules = [Rule([[6]], out=[7])]
        engine = Engine(font_with(Lookup("single", rules, ignore=True), Lookup("single", rules)))
        self.assertIsNone(engine.first_rule(0, run_of([0, 6]), 1))
        self.assertEqual(engine.first_rule(1, run_of([0, 6]), 1), 0)

    def test_forms(self):
        engine = Engine(font_with(Lookup("ligature", [Rule([[0], [1]], out=[2])])))
        run = run_of([0, 1], [3, 4])
        for forms, expected in (([], 0), ((), 0), ([3], 0), ((1, 3), 0), ([4], None), ([0, 1, 2], None)):
            self.assertEqual(engine.first_rule(0, run, 0, forms), expected)
        self.assertEqual(engine.first_rule(0, run, 0), 0)

    def test_without_rules(self):
        self.assertIsNone(Engine(font_with(Lookup("single", []))).first_rule(0, run_of([0]), 0))

    def test_lookups_of_the_other_kinds(self):
        font = font_with(Lookup("pair", [Rule([[0], [1]], extra=5)]))
        for at in range(3):
            run = run_of([0, 0, 1])
            self.assertEqual(Engine(font).first_rule(0, run, at), match(font, 0, run, at))

    def test_it_is_the_rule_that_the_rules_tell(self):
        source = random.Random(34)
        for _ in range(40):
            font = font_with(*some_lookups(source))
            engine = Engine(font)
            run = run_of([source.randrange(8) for _ in range(12)], [source.randrange(5) for _ in range(12)])
            forms = source.sample(range(5), source.randrange(4))
            for lookup in range(5):
                self.assertEqual(
                    [engine.first_rule(lookup, run, at, forms) for at in range(12)],
                    [match(font, lookup, run, at, forms) for at in range(12)],
                )


class ApplyTest(unittest.TestCase):
    def test_single_and_multiple(self):
        font = font_with(Lookup("single", [Rule([[0, 2]], out=[1, 4])]), Lookup("multiple", [Rule([[0]], out=[1, 2]), Rule([[3]])]))
        run = run_of([2, 0, 3], [1, 2, 3])
        self.assertEqual(Engine(font).apply(0, run), [new(4, 0, 1), new(1, 1, 2), run[2]])
        self.assertEqual(Engine(font).apply(1, run), [run[0], new(1, 1, 2), new(2, 1, 2)])

    def test_ligature_with_marks(self):
        font = font_with(Lookup("ligature", [Rule([[0], [1]], out=[5])], ignore=True))
        run = run_of([0, 6, 1, 7], [1, 2, 3, 4])
        self.assertEqual(Engine(font).apply(0, run), [new(5, 0, 1), (6, 0, 2) + run[1][3:], run[3]])

    def test_chain_and_its_calls(self):
        called = Lookup("multiple", [Rule([[0]], out=[0, 4]), Rule([[1]])], ignore=True)
        rule = Rule([[0, 6], [1, 6]], back=[[2]], calls=[(0, 1), (1, 1)])
        font = font_with(Lookup("chain", [rule]), called)
        self.assertEqual(glyphs_behind(font, 0, [0, 1, 2, 0, 1, 1]), [0, 1, 2, 0, 4, 1])
        self.assertEqual(glyphs_behind(font, 0, [2, 6, 6, 2, 6, 1]), [2, 6, 6, 2, 6])

    def test_calls_go_by_any_form(self):
        font = font_with(Lookup("chain", [Rule([[0], [1]], calls=[(1, 1)])]), Lookup("single", [Rule([[1]], out=[3])]))
        run = run_of([0, 1, 0, 1], [2, 3, 1, 2])
        self.assertEqual(Engine(font).apply(0, run, [2]), [run[0], new(3, 1, 3)] + run[2:])

    def test_reverse(self):
        font = font_with(Lookup("reverse", [Rule([[0]], ahead=[[1]], out=[1])]), Lookup("reverse", [Rule([[0]], back=[[0]], out=[1])]))
        self.assertEqual(glyphs_behind(font, 0, [0, 0, 0, 1, 0]), [1, 1, 1, 1, 0])
        self.assertEqual(glyphs_behind(font, 1, [0, 0, 0]), [0, 1, 1])

    def test_the_other_kinds_leave_a_run_as_it_is(self):
        rules = {"pair": Rule([[0], [0]], extra=50), "cursive": Rule([[0]]), "marks": Rule([[0], [6]])}
        for kind, rule in rules.items():
            run = run_of([0, 0, 6, 0])
            result = Engine(font_with(Lookup(kind, [rule]))).apply(0, run)
            self.assertEqual(result, run)
            self.assertIsNot(result, run)

    def test_an_empty_run(self):
        self.assertEqual(Engine(font_with(Lookup("single", [Rule([[0]], out=[1])]))).apply(0, []), [])

    def test_it_is_the_run_that_the_rules_give(self):
        source = random.Random(25)
        for _ in range(60):
            font = font_with(*some_lookups(source))
            engine = Engine(font)
            for _ in range(3):
                run = run_of([source.randrange(8) for _ in range(15)], [source.randrange(5) for _ in range(15)])
                for lookup in range(5):
                    forms = source.sample(range(5), source.randrange(4))
                    self.assertEqual(engine.apply(lookup, run, forms), apply_rules(font, lookup, run, forms))

    def test_long_runs(self):
        rule = Rule([[0], [1]], back=[[2]] * 3, ahead=[[3]] * 3, calls=[(0, 1)])
        font = font_with(Lookup("chain", [rule], ignore=True), Lookup("single", [Rule([[0]], out=[4])]))
        run = run_of([2, 2, 6, 2, 0, 7, 1, 3, 3, 3] * 100)
        result = Engine(font).apply(0, run)
        self.assertEqual([item[0] for item in result], [2, 2, 6, 2, 4, 7, 1, 3, 3, 3] * 100)
        self.assertEqual(result, apply_rules(font, 0, run))

    def test_arguments_are_not_modified(self):
        source = random.Random(35)
        for _ in range(20):
            lookups = some_lookups(source)
            font, same = font_with(*lookups), font_with(*lookups)
            engine = Engine(font)
            run = run_of([source.randrange(8) for _ in range(12)])
            before, forms, steps = copy.deepcopy(run), [0, 1], [(k, [0, 1]) for k in range(5)]
            for lookup in range(5):
                engine.apply(lookup, run, forms).append("spoiled")
                engine.first_rule(lookup, run, 5, forms)
            engine.apply_all(steps, run).append("spoiled")
            self.assertEqual((run, forms, steps), (before, [0, 1], [(k, [0, 1]) for k in range(5)]))
            self.assertTrue(same_font(font, same))

    def test_the_engine_copies_the_font(self):
        font = font_with(Lookup("multiple", [Rule([[0]], out=[1, 2])], ignore=True))
        engine = Engine(font)
        font.lookups[0].rules[0].out.append(3)
        font.lookups[0].ignore = False
        font.glyphs[1].advance = 777
        font.glyphs[0].mark = True
        self.assertEqual(engine.apply(0, [(0, 0, 0, 10, 0, 0)]), [new(1, 0), new(2, 0)])


class ApplyAllTest(unittest.TestCase):
    def test_in_order_with_their_forms(self):
        font = font_with(
            Lookup("single", [Rule([[0]], out=[1])]), Lookup("single", [Rule([[1]], out=[2])]),
            Lookup("pair", [Rule([[2], [2]], extra=9)]),
        )
        engine = Engine(font)
        run = run_of([0, 0, 1], [1, 2, 2])
        self.assertEqual([item[0] for item in engine.apply_all([(0, []), (1, [])], run)], [2, 2, 2])
        self.assertEqual([item[0] for item in engine.apply_all([(1, ()), (0, ())], run)], [1, 1, 2])
        self.assertEqual([item[0] for item in engine.apply_all([(0, [2]), (1, [2])], run)], [0, 2, 2])
        self.assertEqual(engine.apply_all([(0, []), (1, []), (2, [])], run), engine.apply_all([(0, []), (1, [])], run))

    def test_no_steps(self):
        run = run_of([0, 1])
        result = Engine(font_with()).apply_all([], run)
        self.assertEqual(result, run)
        self.assertIsNot(result, run)

    def test_it_is_each_lookup_by_itself(self):
        source = random.Random(36)
        for _ in range(30):
            font = font_with(*some_lookups(source))
            steps = [(source.randrange(5), source.sample(range(5), source.randrange(5))) for _ in range(4)]
            run = run_of([source.randrange(8) for _ in range(10)], [source.randrange(5) for _ in range(10)])
            expected = run
            for lookup, forms in steps:
                expected = apply_rules(font, lookup, expected, forms)
            self.assertEqual(Engine(font).apply_all(steps, run), expected)


class LimitTest(unittest.TestCase):
    def assert_refused(self, limit, function, *arguments):
        """The call is refused because of the limit."""
        with self.assertRaises(TooLarge) as caught:
            function(*arguments)
        self.assertEqual(caught.exception.limit, limit)

    def test_runs_of_1000_items_and_of_more(self):
        font = font_with(Lookup("multiple", [Rule([[0]], out=[1, 2]), Rule([[5]])]), Lookup("reverse", [Rule([[0]], out=[1])]))
        engine = Engine(font)
        self.assertEqual(len(engine.apply(0, run_of([0] * 500))), 1000)
        self.assertEqual(len(engine.apply(0, run_of([0] * 400 + [1] * 200 + [5] * 300))), 1000)
        self.assertEqual(len(engine.apply(1, run_of([0] * 1000))), 1000)
        self.assert_refused("run", engine.apply, 0, run_of([0] * 500 + [1]))
        self.assert_refused("run", engine.apply, 1, run_of([0] * 1001))
        self.assert_refused("run", engine.apply_all, [(0, []), (1, [])], run_of([0] * 600))
        # The run is refused behind the first lookup, although the second one would make it shorter.
        shorter = font_with(Lookup("multiple", [Rule([[0]], out=[5, 5])]), Lookup("multiple", [Rule([[5]])]))
        self.assert_refused("run", Engine(shorter).apply_all, [(0, []), (1, [])], run_of([0] * 600))

    def test_too_many_states(self):
        self.assert_refused("states", Engine, font_of_many_states())


if __name__ == "__main__":
    unittest.main()
