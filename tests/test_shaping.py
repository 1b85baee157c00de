"""Points 41 and 42, and the interface of fleuron/shaping.py."""

import copy
import random
import unittest

from fleuron.attach import apply_attach
from fleuron.errors import InvalidPlace, InvalidTable, OutOfRange, TooLarge
from fleuron.fonts import Font, Glyph, Lookup, Rule, same_font
from fleuron.rules import REPLACING, apply_rules
from fleuron.scripts import arranged, forms
from fleuron.shaping import plan, shape, shape_by_rules, start
from fleuron.vary import at_place
from tests.samples import some_lookups

SHAPERS = (shape, shape_by_rules)


def swap_font():
    """Return the font of the interface's example."""
    return Font(
        100, [Glyph(10, []), Glyph(20, [])], chars=[(97, 0)], lookups=[Lookup("single", [Rule([[0]], out=[1])])],
        features=[("swap", [0]), ("tail", [0])],
    )


def font_of(features, *, lookups=None):
    """Return a font with three glyphs, a lookup that swaps 0 to 1, one that swaps 1 to 2, and the features."""
    if lookups is None:
        lookups = [Lookup("single", [Rule([[0]], out=[1])]), Lookup("single", [Rule([[1]], out=[2])])]
    return Font(100, [Glyph(10, []), Glyph(20, []), Glyph(30, [])], chars=[(97, 0), (98, 1)], lookups=lookups,
                features=features)


def axis_font():
    """Return a font whose advances grow along an axis, with a lookup that puts two glyphs in."""
    glyphs = [Glyph(10, [], deltas=[(0, -1, 100, 0)]), Glyph(20, [], deltas=[(0, -1, -20, 0)]), Glyph(30, [])]
    return Font(
        100, glyphs, chars=[(97, 0), (98, 1)], lookups=[Lookup("multiple", [Rule([[0]], out=[0, 1])])],
        features=[("more", [0])], axes=[(0, 0, 10)], regions=[[(0, 64, 64)]],
    )


def font_of_many_states():
    """Return a font with a lookup, that no feature has, whose automaton would have more than 500 states."""
    source = random.Random(41)
    rules = [Rule([sorted(source.sample(range(60), 30)) for _ in range(4)], out=[0]) for _ in range(12)]
    lookups = [Lookup("multiple", [Rule([[0]], out=[1, 1])]), Lookup("ligature", rules)]
    return Font(100, [Glyph(k, []) for k in range(60)], chars=[(97, 0)], lookups=lookups, features=[("more", [0])])


class ExamplesTest(unittest.TestCase):
    def test_the_examples_of_the_interface(self):
        swap = swap_font()
        self.assertEqual(
            (plan(swap, ["tail"]), plan(swap, ["tail", "swap", "none"])), ([(0, [4])], [(0, [0, 1, 2, 3, 4])])
        )
        self.assertEqual(
            shape(swap, [97, 97], ["tail"], joins=[(97, "both")]), [(0, 0, 2, 10, 0, 0), (1, 1, 4, 20, 0, 0)]
        )
        self.assertEqual(shape_by_rules(swap, [98], ["swap"]), [(1, 0, 0, 20, 0, 0)])


class PlanTest(unittest.TestCase):
    def test_features_for_single_forms(self):
        for name, form in (("solo", 1), ("head", 2), ("midd", 3), ("tail", 4)):
            self.assertEqual(plan(font_of([(name, [0, 1])]), [name]), [(0, [form]), (1, [form])])
        for name in ("liga", "sol", "tai", "mid", "hea", "a"):
            self.assertEqual(plan(font_of([(name, [1])]), [name]), [(1, [0, 1, 2, 3, 4])])

    def test_several_features_with_one_lookup(self):
        font = font_of([("tail", [0, 1]), ("solo", [1]), ("midd", [0]), ("liga", [1])])
        self.assertEqual(plan(font, ["tail", "midd"]), [(0, [3, 4]), (1, [4])])
        self.assertEqual(plan(font, ["solo", "tail"]), [(0, [4]), (1, [1, 4])])
        self.assertEqual(plan(font, ["solo", "liga"]), [(1, [0, 1, 2, 3, 4])])
        self.assertEqual(plan(font, ["midd", "solo", "tail"]), [(0, [3, 4]), (1, [1, 4])])

    def test_lookups_ascend(self):
        font = font_of([("b", [1]), ("a", [0])])
        for names in (["b", "a"], ["a", "b"]):
            self.assertEqual([lookup for lookup, _ in plan(font, names)], [0, 1])

    def test_names_that_the_font_does_not_have_or_that_stand_twice(self):
        font = font_of([("liga", [0]), ("none", [])])
        self.assertEqual(plan(font, []), [])
        self.assertEqual(plan(font, ["head", "LIGA", "", "lig"]), [])
        self.assertEqual(plan(font, ["none"]), [])
        self.assertEqual(plan(font, ["liga", "x", "liga", "x"]), [(0, [0, 1, 2, 3, 4])])

    def test_what_is_returned_is_new(self):
        font, names = font_of([("liga", [0, 1]), ("tail", [0])]), ["liga", "tail"]
        steps = plan(font, names)
        for _, chosen in steps:
            chosen.append(9)
        steps.append((5, []))
        self.assertEqual(plan(font, names), [(0, [0, 1, 2, 3, 4]), (1, [0, 1, 2, 3, 4])])
        self.assertEqual(plan(font, ["tail"]), [(0, [4])])
        self.assertEqual(names, ["liga", "tail"])


class StartTest(unittest.TestCase):
    def test_glyphs_clusters_and_advances(self):
        font = font_of([])
        expected = [(0, 0, 0, 10, 0, 0), (1, 1, 0, 20, 0, 0), (0, 2, 0, 10, 0, 0)]
        self.assertEqual(start(font, [97, 98, 97]), expected)
        self.assertEqual(start(font, []), [])

    def test_a_code_that_the_font_does_not_have(self):
        font = Font(100, [Glyph(10, []), Glyph(20, [])], chars=[(97, 1)])
        self.assertEqual(start(font, [97, 5, -1]), [(1, 0, 0, 20, 0, 0), (0, 1, 0, 10, 0, 0), (0, 2, 0, 10, 0, 0)])

    def test_the_text_is_arranged_and_then_its_forms_are_found(self):
        font = Font(100, [Glyph(k, []) for k in range(4)], chars=[(97, 1), (120, 2), (121, 3)])
        orders, joins = [(120, 9), (121, 5)], [(97, "both"), (121, "back"), (120, "through")]
        # Arranged: 97 121 120 in the cluster 0, 97 in the cluster 3.
        run = start(font, [97, 120, 121, 97], joins=joins, orders=orders)
        self.assertEqual(run, [(1, 0, 2, 1, 0, 0), (3, 0, 4, 3, 0, 0), (2, 0, 0, 2, 0, 0), (1, 3, 1, 1, 0, 0)])
        run = start(font, [120, 121, 97], joins=joins, orders=orders)
        self.assertEqual(run, [(3, 0, 1, 3, 0, 0), (2, 0, 0, 2, 0, 0), (1, 2, 1, 1, 0, 0)])

    def test_it_is_the_run_of_no_features(self):
        font, codes = axis_font(), [97, 98, 5, 97]
        options = {"joins": [(97, "both")], "orders": [(98, 3)]}
        for shaper in SHAPERS:
            self.assertEqual(shaper(font, codes, [], **options), start(font, codes, **options))

    def test_invalid_tables(self):
        for options in ({"joins": [(1, "none")]}, {"orders": [(1, 0)]}, {"orders": [(1, 255)]},
                        {"joins": [(1, "both"), (1, "both")]}, {"orders": [(1, 5), (1, 6)]}):
            self.assertRaises(InvalidTable, start, font_of([]), [97], **options)
            self.assertRaises(InvalidTable, start, font_of([]), [], **options)


class ShapeTest(unittest.TestCase):
    def test_lookups_in_ascending_order(self):
        font = font_of([("b", [1]), ("a", [0])])
        for shaper in SHAPERS:
            self.assertEqual([item[0] for item in shaper(font, [97, 98], ["b", "a"])], [2, 2])
            self.assertEqual([item[0] for item in shaper(font, [97, 98], ["b"])], [0, 2])
            self.assertEqual([item[0] for item in shaper(font, [97, 98], ["a", "x"])], [1, 1])
            self.assertEqual([item[0] for item in shaper(font, [97, 98], [])], [0, 1])

    def test_features_for_single_forms(self):
        font = font_of([("solo", [0]), ("head", [0]), ("midd", [0]), ("tail", [0])])
        joins = [(97, "both")]
        for shaper in SHAPERS:
            for name, expected in (("solo", [0, 0, 0]), ("head", [1, 0, 0]), ("midd", [0, 1, 0]), ("tail", [0, 0, 1])):
                run = shaper(font, [97, 97, 97], [name], joins=joins)
                self.assertEqual([item[0] for item in run], expected)
            self.assertEqual(shaper(font, [97], ["solo"], joins=joins), [(1, 0, 1, 20, 0, 0)])
            self.assertEqual(shaper(font, [97], ["solo"]), [(0, 0, 0, 10, 0, 0)])
            run = shaper(font, [97, 97, 97], ["head", "tail"], joins=joins)
            self.assertEqual([item[0] for item in run], [1, 0, 1])

    def test_lookups_that_attach_are_applied_in_their_turn(self):
        lookups = [
            Lookup("pair", [Rule([[0], [0]], extra=5)]),
            Lookup("single", [Rule([[0]], out=[1])]),
            Lookup("pair", [Rule([[1], [1]], extra=7)]),
        ]
        font = font_of([("kern", [0, 2]), ("swap", [1])], lookups=lookups)
        for shaper in SHAPERS:
            self.assertEqual([item[3] for item in shaper(font, [97, 97], ["kern"])], [15, 10])
            self.assertEqual([item[3] for item in shaper(font, [97, 97], ["kern", "swap"])], [27, 20])

    def test_lookups_that_attach_have_their_forms(self):
        font = font_of([("tail", [0])], lookups=[Lookup("pair", [Rule([[0], [0]], extra=5)])])
        for shaper in SHAPERS:
            run = shaper(font, [97, 97, 98, 97, 97, 98], ["tail"], joins=[(97, "both"), (98, "through")])
            self.assertEqual([item[3] for item in run], [10, 10, 20, 10, 10, 20])
            run = shaper(font, [97, 97, 97], ["tail"], joins=[(97, "back")])
            self.assertEqual([item[3] for item in run], [10, 10, 10])

    def test_marks_and_cursive(self):
        base = Glyph(50, [], anchors=[("base", 0, 20, 70), ("exit", 0, 48, 5)])
        mark = Glyph(30, [], anchors=[("mark", 0, 15, 0)], mark=True)
        tail = Glyph(40, [], anchors=[("entry", 0, -2, 9)])
        lookups = [Lookup("marks", [Rule([[0], [1]])]), Lookup("cursive", [Rule([[0, 2]])], ignore=True)]
        font = Font(100, [base, mark, tail], chars=[(97, 0), (98, 1), (99, 2)], lookups=lookups, features=[("all", [0, 1])])
        expected = [(0, 0, 0, 50, 0, 0), (1, 1, 0, 0, -45, 70), (2, 2, 0, 40, 0, -4)]
        for shaper in SHAPERS:
            self.assertEqual(shaper(font, [97, 98, 99], ["all"]), expected)

    def test_at_a_place(self):
        font = axis_font()
        for shaper in SHAPERS:
            run = [(0, 0, 0, 60, 0, 0), (1, 0, 0, 10, 0, 0), (1, 1, 0, 10, 0, 0)]
            self.assertEqual(shaper(font, [97, 98], ["more"], [5]), run)
            self.assertEqual(shaper(font, [97, 98], ["more"], place=[5]), run)
            self.assertEqual(shaper(at_place(font, [5]), [97, 98], ["more"]), run)
            run = [(0, 0, 0, 10, 0, 0), (1, 0, 0, 20, 0, 0), (1, 1, 0, 20, 0, 0)]
            self.assertEqual(shaper(font, [97, 98], ["more"]), run)
            self.assertEqual(shaper(font, [97, 98], ["more"], None), run)
            self.assertEqual(shaper(font, [97, 98], ["more"], [0]), run)

    def test_an_empty_text(self):
        for shaper in SHAPERS:
            self.assertEqual(shaper(axis_font(), [], ["more"]), [])


class ErrorsTest(unittest.TestCase):
    def test_tables_come_first_then_places(self):
        font = axis_font()
        for shaper in SHAPERS:
            self.assertRaises(InvalidTable, shaper, font, [97], [], [99], joins=[(1, "x")])
            self.assertRaises(InvalidTable, shaper, font, [97], [], [99], orders=[(1, 255)])
            for place in ([99], [], [1, 1], [-1]):
                self.assertRaises(InvalidPlace, shaper, font, [97], [], place)
            self.assertRaises(InvalidPlace, shaper, font_of_many_states(), [97] * 600, ["more"], [1])

    def test_a_glyph_that_does_not_exist(self):
        glyphs = [Glyph(0, []), Glyph(0, [], deltas=[(0, -1, -1, 0)])]
        font = Font(100, glyphs, axes=[(0, 0, 10)], regions=[[(0, 64, 64)]], lookups=[Lookup("multiple", [Rule([[0]], out=[0, 0])])],
                    features=[("more", [0])])
        for shaper in SHAPERS:
            with self.assertRaises(OutOfRange) as caught:
                shaper(font, [97] * 600, ["more"], [10])
            self.assertEqual(caught.exception.number, 1)
            self.assertEqual(len(shaper(font, [97], ["more"], [0])), 2)

    def assert_refused(self, limit, function, *arguments):
        """The call is refused because of the limit."""
        with self.assertRaises(TooLarge) as caught:
            function(*arguments)
        self.assertEqual(caught.exception.limit, limit)

    def test_too_long_a_run(self):
        font = axis_font()
        for shaper in SHAPERS:
            self.assertEqual(len(shaper(font, [97] * 500, ["more"])), 1000)
            self.assert_refused("run", shaper, font, [97] * 501, ["more"])
            self.assertEqual(len(shaper(font, [97] * 1001, [])), 1001)

    def test_too_many_states(self):
        font = font_of_many_states()
        self.assert_refused("states", shape, font, [97] * 600, ["more"])
        self.assert_refused("run", shape_by_rules, font, [97] * 600, ["more"])
        self.assertEqual([item[0] for item in shape_by_rules(font, [97], ["more"])], [1, 1])


def some_font(source):
    """Return a font with lookups of all kinds, features and axes, all of them random."""
    def chosen():
        return sorted(source.sample(range(8), source.randint(1, 5)))

    def anchors():
        return [(source.choice(("base", "mark", "entry", "exit")), source.randrange(2), source.randint(-9, 9),
                 source.randint(-9, 9)) for _ in range(4)]

    lookups = some_lookups(source) + [
        Lookup("pair", [Rule([chosen(), chosen()], extra=source.randint(-9, 9)) for _ in range(2)]),
        Lookup("cursive", [Rule([chosen()])], ignore=source.random() < 0.5),
        Lookup("marks", [Rule([chosen(), chosen()])]),
    ]
    glyphs = [Glyph(500 + k, [], anchors=anchors(), mark=k > 5, deltas=[(0, -1, source.randint(-99, 99), 0)])
              for k in range(8)]
    features = [(name, sorted(source.sample(range(8), 4))) for name in ("solo", "head", "midd", "tail", "liga", "kern")]
    return Font(100, glyphs, chars=[(100 + k, k) for k in range(8)], lookups=lookups, features=features,
                axes=[(-10, 0, 10)], regions=[[(0, 64, 64)]])


class BothWaysTest(unittest.TestCase):
    def test_both_ways_give_the_same_run(self):
        source = random.Random(42)
        for _ in range(80):
            font = some_font(source)
            same = copy.deepcopy(font)
            codes = [source.choice(range(98, 108)) for _ in range(12)]
            names = source.sample(["solo", "head", "midd", "tail", "liga", "kern", "none"], 4)
            joins = [(100 + k, source.choice(("both", "back", "through"))) for k in range(6)]
            orders = [(105 + k, source.randint(1, 254)) for k in range(3)]
            place = source.choice((None, [source.randint(-10, 10)]))
            before = copy.deepcopy((codes, names, place, joins, orders))
            run = shape(font, codes, names, place, joins=joins, orders=orders)
            self.assertEqual(run, shape_by_rules(font, codes, names, place, joins=joins, orders=orders))
            self.assertEqual(run, self.by_points(font, codes, names, place, joins, orders))
            clusters = [item[1] for item in run]
            self.assertEqual(clusters, sorted(clusters))
            self.assertEqual((codes, names, place, joins, orders), before)
            self.assertTrue(same_font(font, same))

    def by_points(self, font, codes, names, place, joins, orders):
        """Return the run as point 42 tells it."""
        drawn = font if place is None else at_place(font, place)
        pairs = arranged(codes, orders)
        run = []
        for (code, cluster), form in zip(pairs, forms([code for code, _ in pairs], joins)):
            glyph = dict(font.chars).get(code, 0)
            run.append((glyph, cluster, form, drawn.glyphs[glyph].advance, 0, 0))
        for lookup, chosen in plan(font, names):
            apply = apply_rules if font.lookups[lookup].kind in REPLACING else apply_attach
            run = apply(drawn, lookup, run, chosen)
        return run


if __name__ == "__main__":
    unittest.main()
