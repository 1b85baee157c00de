"""Points 35 to 37, and the interface of fleuron/attach.py."""

import copy
import random
import unittest

from fleuron.attach import apply_attach, pens
from fleuron.fonts import Font, Glyph, Lookup, Rule, same_font
from fleuron.rules import match, sees
from tests.samples import font_with, run_of


def items_of(*rows):
    """Return a run of the tuples (glyph, advance) or (glyph, advance, x, y), each a cluster of its own."""
    return [(row[0], k, 0, row[1]) + (tuple(row[2:]) or (0, 0)) for k, row in enumerate(rows)]


def anchored(rows, lookup):
    """Return a font with a glyph for each list of anchors; those whose list begins with "m" are marks."""
    glyphs = []
    for row in rows:
        mark = row[:1] == ["m"]
        glyphs.append(Glyph(10, [], anchors=row[1:] if mark else row, mark=mark))
    return Font(100, glyphs, lookups=[lookup])


def anchor_point(font, run, at, kind, group):
    """Return the anchor point of the first anchor of the kind and the class."""
    for own_kind, own_group, x, y in font.glyphs[run[at][0]].anchors:
        if (own_kind, own_group) == (kind, group):
            return (pens(run)[at] + run[at][4] + x, run[at][5] + y)
    return None


def least_class(font, first, first_kind, second, second_kind):
    """Return the least class of which both glyphs have an anchor, or None."""
    classes = [
        group for kind, group, _, _ in font.glyphs[first].anchors if kind == first_kind
        and (second_kind, group) in [anchor[:2] for anchor in font.glyphs[second].anchors]
    ]
    return min(classes, default=None)


class ExamplesTest(unittest.TestCase):
    def test_the_examples_of_the_interface(self):
        base = Glyph(50, [], anchors=[("base", 0, 20, 70), ("exit", 0, 48, 5)])
        mark = Glyph(30, [], anchors=[("mark", 0, 15, 0)], mark=True)
        tail = Glyph(40, [], anchors=[("entry", 0, -2, 9)])
        lookups = [Lookup("marks", [Rule([[0], [1]])]), Lookup("cursive", [Rule([[0, 2]])], ignore=True)]
        font = Font(100, [base, mark, tail], lookups=lookups)
        run = [(0, 0, 0, 50, 0, 0), (1, 0, 0, 30, 0, 0), (2, 2, 0, 40, 0, 0)]
        run = apply_attach(font, 0, run)
        self.assertEqual(run[1], (1, 0, 0, 0, -45, 70))
        self.assertEqual(
            apply_attach(font, 1, run), [(0, 0, 0, 50, 0, 0), (1, 0, 0, 0, -45, 70), (2, 2, 0, 40, 0, -4)]
        )
        self.assertEqual(pens(run), [0, 50, 50])


class PensTest(unittest.TestCase):
    def test_pens(self):
        self.assertEqual(pens([]), [])
        self.assertEqual(pens(items_of((0, 7))), [0])
        self.assertEqual(pens(items_of((0, 10, 99, 99), (1, -25, 5, 5), (0, 0), (2, 40))), [0, 10, -15, -15])


class PairTest(unittest.TestCase):
    def advances(self, font, run, forms=()):
        """Return the advances behind lookup 0, all else being unchanged."""
        result = apply_attach(font, 0, run, forms)
        self.assertEqual([item[:3] + item[4:] for item in result], [item[:3] + item[4:] for item in run])
        return [item[3] - before[3] for item, before in zip(result, run)]

    def test_the_extra_is_added_to_the_first_item(self):
        font = font_with(Lookup("pair", [Rule([[0], [1, 2]], extra=-30)]))
        self.assertEqual(self.advances(font, run_of([0, 1, 0, 2, 0, 3, 0])), [-30, 0, -30, 0, 0, 0, 0])

    def test_the_first_rule_that_matches_counts(self):
        rules = [Rule([[0], [1]]), Rule([[0], [1, 2]], extra=5), Rule([[0, 1], [2]], extra=7)]
        font = font_with(Lookup("pair", rules))
        self.assertEqual(self.advances(font, run_of([0, 1, 2, 0, 2])), [0, 7, 0, 5, 0])

    def test_each_item_is_looked_at(self):
        font = font_with(Lookup("pair", [Rule([[0], [0]], extra=4)]))
        self.assertEqual(self.advances(font, run_of([0, 0, 0, 0])), [4, 4, 4, 0])

    def test_marks_that_are_passed_over(self):
        rule = Rule([[0], [1]], extra=4)
        run = run_of([0, 6, 7, 1, 0, 1, 6])
        self.assertEqual(self.advances(font_with(Lookup("pair", [rule], ignore=True)), run), [4, 0, 0, 0, 4, 0, 0])
        self.assertEqual(self.advances(font_with(Lookup("pair", [rule])), run), [0, 0, 0, 0, 4, 0, 0])
        font = font_with(Lookup("pair", [Rule([[6], [6, 7]], extra=4)]))
        self.assertEqual(self.advances(font, run_of([6, 7, 6, 6])), [4, 0, 4, 0])
        font = font_with(Lookup("pair", [Rule([[6], [6, 7]], extra=4)], ignore=True))
        self.assertEqual(self.advances(font, run_of([6, 7, 6, 6])), [0, 0, 0, 0])

    def test_forms(self):
        font = font_with(Lookup("pair", [Rule([[0], [0]], extra=4)]))
        run = run_of([0, 0, 0, 0], [1, 2, 3, 2])
        self.assertEqual(self.advances(font, run, [2, 1]), [4, 4, 0, 0])
        self.assertEqual(self.advances(font, run, [3]), [0, 0, 4, 0])
        self.assertEqual(self.advances(font, run, [0]), [0, 0, 0, 0])
        self.assertEqual(self.advances(font, run, ()), [4, 4, 4, 0])

    def test_advances_may_become_negative(self):
        font = font_with(Lookup("pair", [Rule([[0], [0]], extra=-16384)]))
        self.assertEqual(apply_attach(font, 0, items_of((0, 10), (0, 10)))[0][3], -16374)


class CursiveTest(unittest.TestCase):
    ROWS = [[("exit", 0, 30, 5), ("entry", 0, 2, 9)], [("entry", 0, -4, 1), ("exit", 0, 20, -6)], ["m", ("entry", 0, 1, 1)]]

    def test_advance_and_y(self):
        font = anchored(self.ROWS, Lookup("cursive", [Rule([[0, 1]])]))
        run = items_of((0, 10, 3, 4), (1, 20, 7, 99))
        # The exit is at 0 + 3 + 30, 4 + 5; the entry at the advance + 7 - 4, y + 1.
        self.assertEqual(apply_attach(font, 0, run), items_of((0, 30, 3, 4), (1, 20, 7, 8)))

    def test_a_row_of_joined_items(self):
        font = anchored(self.ROWS, Lookup("cursive", [Rule([[0, 1]])]))
        result = apply_attach(font, 0, items_of((0, 10), (1, 10), (0, 10), (0, 10)))
        self.assertEqual(result, items_of((0, 34), (1, 18, 0, 4), (0, 28, 0, -11), (0, 10, 0, -15)))
        self.assertEqual(pens(result), [0, 34, 52, 80])
        for at in range(3):
            self.assertEqual(anchor_point(font, result, at, "exit", 0), anchor_point(font, result, at + 1, "entry", 0))

    def test_both_glyphs_are_in_the_set_of_one_rule(self):
        run = items_of((0, 10), (1, 10))
        for sets, changed in (([[0], [1]], False), ([[0], [0, 1]], True), ([[0]], False), ([[1]], False), ([], False)):
            font = anchored(self.ROWS, Lookup("cursive", [Rule([chosen]) for chosen in sets]))
            self.assertEqual(apply_attach(font, 0, run) != run, changed)

    def test_items_that_are_passed_over(self):
        run = items_of((0, 10), (2, 6, 1, 1), (2, 5), (1, 10), (2, 3))
        font = anchored(self.ROWS, Lookup("cursive", [Rule([[0, 1]])], ignore=True))
        result = apply_attach(font, 0, run)
        self.assertEqual(result, items_of((0, 23), (2, 6, 1, 1), (2, 5), (1, 10, 0, 4), (2, 3)))
        self.assertEqual(anchor_point(font, result, 0, "exit", 0), anchor_point(font, result, 3, "entry", 0))
        font = anchored(self.ROWS, Lookup("cursive", [Rule([[0, 1]])]))
        self.assertEqual(apply_attach(font, 0, run), run)
        font = anchored(self.ROWS, Lookup("cursive", [Rule([[0, 1, 2]])]))
        self.assertEqual(apply_attach(font, 0, run)[:2], items_of((0, 28), (2, 6, 1, 4)))

    def test_an_item_at_the_end(self):
        font = anchored(self.ROWS, Lookup("cursive", [Rule([[0, 1]])], ignore=True))
        for run in (items_of((0, 10)), items_of((0, 10), (2, 5)), []):
            self.assertEqual(apply_attach(font, 0, run), run)

    def test_the_least_common_class_and_its_first_anchors(self):
        rows = [
            [("exit", 9, 1, 1), ("exit", 5, 50, 51), ("exit", 3, 30, 31), ("exit", 3, 99, 99), ("entry", 0, 7, 7)],
            [("entry", 9, 2, 2), ("exit", 0, 8, 8), ("entry", 3, 5, 6), ("entry", 5, 7, 8), ("entry", 3, 88, 88)],
            [("entry", 1, 9, 9), ("entry", 5, 4, 3), ("mark", 3, 1, 1), ("base", 3, 1, 1)],
            [("entry", 2, 9, 9), ("exit", 9, 4, 3)],
        ]
        font = anchored(rows, Lookup("cursive", [Rule([[0, 1, 2, 3]])]))
        self.assertEqual(apply_attach(font, 0, items_of((0, 10), (1, 10))), items_of((0, 25), (1, 10, 0, 25)))
        self.assertEqual(apply_attach(font, 0, items_of((0, 10), (2, 10))), items_of((0, 46), (2, 10, 0, 48)))
        self.assertEqual(apply_attach(font, 0, items_of((0, 10), (3, 10))), items_of((0, 10), (3, 10)))
        # The kinds are not exchanged: glyph 3 has an exit, and glyph 0 an entry, of no common class.
        self.assertEqual(apply_attach(font, 0, items_of((3, 10), (0, 10))), items_of((3, 10), (0, 10)))

    def test_forms(self):
        font = anchored(self.ROWS, Lookup("cursive", [Rule([[0, 1]])]))
        run = [(0, 0, 1, 10, 0, 0), (1, 1, 2, 10, 0, 0), (0, 2, 3, 10, 0, 0)]
        first = [(0, 0, 1, 34, 0, 0), (1, 1, 2, 10, 0, 4), (0, 2, 3, 10, 0, 0)]
        self.assertEqual(apply_attach(font, 0, run, [1]), first)
        second = [(0, 0, 1, 10, 0, 0), (1, 1, 2, 18, 0, 0), (0, 2, 3, 10, 0, -15)]
        self.assertEqual(apply_attach(font, 0, run, (2, 4)), second)
        self.assertEqual(apply_attach(font, 0, run, [3, 0]), run)


class MarksTest(unittest.TestCase):
    ROWS = [
        [("base", 0, 20, 70), ("base", 1, 5, -10)],
        ["m", ("mark", 0, 3, 2)],
        ["m", ("mark", 1, 1, 4)],
        [],
        ["m", ("base", 0, 6, 6), ("mark", 7, 1, 1)],
    ]

    def test_x_and_y_and_the_advance(self):
        font = anchored(self.ROWS, Lookup("marks", [Rule([[0], [1]])]))
        # The base's anchor point is at 0 + 2 + 20, 3 + 70; the mark's pen is 50.
        result = apply_attach(font, 0, items_of((0, 50, 2, 3), (1, 30, 9, 9), (0, 50)))
        self.assertEqual(result, items_of((0, 50, 2, 3), (1, 0, -31, 71), (0, 50)))
        self.assertEqual(anchor_point(font, result, 0, "base", 0), anchor_point(font, result, 1, "mark", 0))

    def test_several_marks_of_one_base(self):
        font = anchored(self.ROWS, Lookup("marks", [Rule([[0], [1, 2]])]))
        result = apply_attach(font, 0, items_of((3, 100), (0, 50), (1, 30), (4, 8), (2, 30), (1, 30)))
        expected = items_of((3, 100), (0, 50), (1, 0, -33, 68), (4, 8), (2, 0, -54, -14), (1, 0, -41, 68))
        self.assertEqual(result, expected)
        for at, group in ((2, 0), (4, 1), (5, 0)):
            self.assertEqual(anchor_point(font, result, at, "mark", group), anchor_point(font, result, 1, "base", group))

    def test_a_mark_without_a_base(self):
        font = anchored(self.ROWS, Lookup("marks", [Rule([[0, 4], [1]])]))
        run = items_of((1, 30, 5, 5), (4, 9), (1, 30))
        self.assertEqual(apply_attach(font, 0, run), run)

    def test_only_the_nearest_base_counts(self):
        font = anchored(self.ROWS, Lookup("marks", [Rule([[0], [1]])]))
        run = items_of((0, 50), (3, 10), (1, 30))
        self.assertEqual(apply_attach(font, 0, run), run)
        font = anchored(self.ROWS, Lookup("marks", [Rule([[0, 3], [1]])]))
        self.assertEqual(apply_attach(font, 0, run), run)

    def test_one_rule_has_both_glyphs(self):
        run = items_of((0, 50), (1, 30))
        cases = (([[0], [1]], True), ([[1], [0]], False), ([[0], [2]], False), ([[3], [1]], False), ([[0, 3], [1, 2]], True))
        for sets, changed in cases:
            font = anchored(self.ROWS, Lookup("marks", [Rule(sets)]))
            self.assertEqual(apply_attach(font, 0, run) != run, changed)
        font = anchored(self.ROWS, Lookup("marks", [Rule([[0], [2]]), Rule([[3], [1]])]))
        self.assertEqual(apply_attach(font, 0, run), run)
        font = anchored(self.ROWS, Lookup("marks", [Rule([[0], [2]]), Rule([[0], [1]])]))
        self.assertNotEqual(apply_attach(font, 0, run), run)

    def test_no_common_class(self):
        font = anchored(self.ROWS, Lookup("marks", [Rule([[0], [4]])]))
        run = items_of((0, 50), (4, 30))
        self.assertEqual(apply_attach(font, 0, run), run)

    def test_the_least_common_class_and_its_first_anchors(self):
        rows = [
            [("base", 8, 1, 1), ("base", 4, 40, 41), ("base", 2, 20, 21), ("base", 2, 99, 99), ("mark", 0, 1, 1)],
            ["m", ("base", 0, 1, 1), ("mark", 8, 9, 9), ("mark", 2, 1, 2), ("mark", 4, 5, 6), ("mark", 2, 77, 77)],
        ]
        font = anchored(rows, Lookup("marks", [Rule([[0], [1]])]))
        self.assertEqual(apply_attach(font, 0, items_of((0, 50), (1, 30)))[1][3:], (0, -31, 19))

    def test_an_item_that_is_no_mark_is_not_set(self):
        rows = [[("base", 0, 1, 1), ("mark", 0, 2, 2)], [("mark", 0, 3, 3)]]
        font = anchored(rows, Lookup("marks", [Rule([[0], [0, 1]])]))
        run = items_of((0, 50), (1, 30), (0, 20))
        self.assertEqual(apply_attach(font, 0, run), run)

    def test_a_lookup_that_ignores_marks_changes_nothing(self):
        font = anchored(self.ROWS, Lookup("marks", [Rule([[0], [1]])], ignore=True))
        run = items_of((0, 50), (1, 30))
        self.assertEqual(apply_attach(font, 0, run), run)

    def test_forms(self):
        font = anchored(self.ROWS, Lookup("marks", [Rule([[0], [1]])]))
        run = [(0, 0, 3, 50, 0, 0), (1, 1, 1, 30, 0, 0), (1, 2, 2, 30, 0, 0)]
        self.assertEqual(apply_attach(font, 0, run, [2, 4]), run[:2] + [(1, 2, 2, 0, -63, 68)])
        self.assertEqual(apply_attach(font, 0, run, (1,)), [run[0], (1, 1, 1, 0, -33, 68), run[2]])
        self.assertEqual(apply_attach(font, 0, run, [3]), run)


def attached_slowly(font, run, forms):
    """Return the run behind lookup 0, told as plainly as point 36 does."""
    items = list(run)
    lookup = font.lookups[0]
    for at in range(len(items)):
        glyph, cluster, form, advance, x, y = items[at]
        if not sees(font, 0, glyph) or (forms and form not in forms):
            continue
        if lookup.kind == "pair":
            rule = match(font, 0, items, at)
            extra = 0 if rule is None else lookup.rules[rule].extra
            items[at] = (glyph, cluster, form, advance + extra, x, y)
        elif lookup.kind == "cursive":
            later = [k for k in range(at + 1, len(items)) if sees(font, 0, items[k][0])]
            if later and any(glyph in r.inside[0] and items[later[0]][0] in r.inside[0] for r in lookup.rules):
                group = least_class(font, glyph, "exit", items[later[0]][0], "entry")
                if group is not None:
                    after = later[0]
                    apart_x, apart_y = [b - a for a, b in zip(
                        anchor_point(font, items, at, "exit", group), anchor_point(font, items, after, "entry", group))]
                    items[at] = (glyph, cluster, form, advance - apart_x, x, y)
                    items[after] = items[after][:5] + (items[after][5] - apart_y,)
        elif font.glyphs[glyph].mark:
            bases = [k for k in range(at) if not font.glyphs[items[k][0]].mark]
            if bases and any(items[bases[-1]][0] in r.inside[0] and glyph in r.inside[1] for r in lookup.rules):
                group = least_class(font, items[bases[-1]][0], "base", glyph, "mark")
                if group is not None:
                    apart_x, apart_y = [b - a for a, b in zip(
                        anchor_point(font, items, bases[-1], "base", group), anchor_point(font, items, at, "mark", group))]
                    items[at] = (glyph, cluster, form, 0, x - apart_x, y - apart_y)
    return items


def some_attaching(source):
    """Return a font with a random lookup of the kind pair, cursive or marks."""
    def anchors():
        return [(source.choice(("base", "mark", "entry", "exit")), source.randrange(4), source.randint(-50, 50),
                 source.randint(-50, 50)) for _ in range(source.randrange(8))]

    def chosen():
        return sorted(source.sample(range(6), source.randint(1, 5)))

    kind = source.choice(("pair", "cursive", "marks"))
    many = 1 if kind == "cursive" else 2
    rules = [Rule([chosen() for _ in range(many)], extra=source.randint(-9, 9) if kind == "pair" else 0) for _ in range(3)]
    glyphs = [Glyph(10 * k, [], anchors=anchors(), mark=k > 3) for k in range(6)]
    return Font(100, glyphs, lookups=[Lookup(kind, rules, ignore=source.random() < 0.3)])


class FactsTest(unittest.TestCase):
    def runs(self, seed):
        """Return random fonts, each with a run and forms."""
        source = random.Random(seed)
        found = []
        for _ in range(300):
            run = [(source.randrange(6), k, source.randrange(3), source.randint(-20, 60), source.randint(-9, 9),
                    source.randint(-9, 9)) for k in range(9)]
            found.append((some_attaching(source), run, source.sample(range(3), source.choice((0, 0, 1, 2)))))
        return found

    def test_it_is_what_point_36_tells(self):
        changed = 0
        for font, run, forms in self.runs(36):
            result = apply_attach(font, 0, run, forms)
            self.assertEqual(result, attached_slowly(font, run, forms))
            changed += result != run
        self.assertGreater(changed, 100)

    def test_no_glyph_and_no_cluster_and_no_form_changes(self):
        for font, run, forms in self.runs(37):
            result = apply_attach(font, 0, run, forms)
            self.assertEqual([item[:3] for item in result], [item[:3] for item in run])
            if font.lookups[0].kind == "marks" and font.lookups[0].ignore:
                self.assertEqual(result, run)

    def test_anchor_points_that_were_brought_together_lie_together(self):
        together = {"cursive": 0, "marks": 0}
        for font, run, _ in self.runs(38):
            lookup = font.lookups[0]
            result = apply_attach(font, 0, run)
            seen = [at for at, item in enumerate(run) if sees(font, 0, item[0])]
            if lookup.kind == "cursive":
                kinds, pairs = ("exit", "entry"), zip(seen, seen[1:])
            elif lookup.kind == "marks":
                bases = [at for at, item in enumerate(run) if not font.glyphs[item[0]].mark]
                kinds = ("base", "mark")
                pairs = [(max([b for b in bases if b < at], default=None), at) for at in seen if at not in bases]
            else:
                continue
            for first, second in pairs:
                if first is None:
                    continue
                glyphs = (run[first][0], run[second][0])
                group = least_class(font, glyphs[0], kinds[0], glyphs[1], kinds[1])
                if group is not None and any(glyphs[0] in r.inside[0] and glyphs[1] in r.inside[-1] for r in lookup.rules):
                    self.assertEqual(anchor_point(font, result, first, kinds[0], group),
                                     anchor_point(font, result, second, kinds[1], group))
                    together[lookup.kind] += 1
        self.assertGreater(min(together.values()), 10)

    def test_arguments_are_not_modified(self):
        for font, run, forms in self.runs(39):
            before, same = copy.deepcopy((run, forms)), copy.deepcopy(font)
            apply_attach(font, 0, run, forms).append("spoiled")
            self.assertEqual((run, forms), before)
            self.assertTrue(same_font(font, same))


if __name__ == "__main__":
    unittest.main()
