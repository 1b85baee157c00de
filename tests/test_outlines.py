"""Points 7 to 11, and the interface of fleuron/outlines.py."""

import copy
import random
import unittest

from fleuron.outlines import box, count_points, is_proper, lines, moved, reversed_outline, turning_sum

SQUARE = [(0, 0, True), (4, 0, True), (4, 4, True), (0, 4, True)]
FAR = 16384


def contour_of(many):
    """Return a contour with so many points."""
    return [(k, 2 * k, True) for k in range(many)]


def some_contours():
    """Return contours of several kinds: on and off in any order, all on, all off, short ones."""
    source = random.Random(7)
    contours = [[], [(3, -4, True)], [(3, -4, False)], SQUARE]
    for many in range(2, 9):
        for kind in range(6):
            contours.append([
                (source.randint(-50, 50), source.randint(-50, 50), kind != 1 and (kind == 0 or source.random() < 0.5))
                for _ in range(many)
            ])
    return contours


def some_outlines():
    """Return outlines that consist of contours of several kinds."""
    contours = some_contours()
    return [[]] + [[contour] for contour in contours] + [contours[k:k + 3] for k in range(0, len(contours), 3)]


def expected_line(contour):
    """Return the line of a contour, written down as the document tells it, but place by place."""
    if not contour:
        return []
    ring = []
    for k, (x, y, on) in enumerate(contour):
        ring.append((x, y, on))
        next_x, next_y, next_on = contour[(k + 1) % len(contour)]
        if not on and not next_on:
            ring.append(((x + next_x) // 2, (y + next_y) // 2, True))
    if any(on for _, _, on in contour):
        first = next(point for point in contour if point[2])
        begin = ring.index(first)
    else:
        begin = len(ring) - 1
    line = [ring[begin][:2]]
    place = begin
    while True:
        following = (place + 1) % len(ring)
        if ring[following][2]:
            place = following
            line.append(ring[place][:2])
        else:
            end = (place + 2) % len(ring)
            (ax, ay, _), (cx, cy, _), (bx, by, _) = ring[place], ring[following], ring[end]
            for n in range(1, 9):
                weights = ((8 - n) ** 2, 2 * n * (8 - n), n ** 2)
                line.append((
                    (weights[0] * ax + weights[1] * cx + weights[2] * bx + 32) // 64,
                    (weights[0] * ay + weights[1] * cy + weights[2] * by + 32) // 64,
                ))
            place = end
        if place == begin:
            return line[:-1]


class ProperTest(unittest.TestCase):
    def test_ordinary_outlines(self):
        self.assertIs(is_proper([SQUARE]), True)
        self.assertIs(is_proper([]), True)

    def test_40_contours_and_41(self):
        self.assertIs(is_proper([contour_of(2)] * 40), True)
        self.assertIs(is_proper([contour_of(2)] * 41), False)

    def test_contours_of_one_or_no_point(self):
        self.assertIs(is_proper([contour_of(2)]), True)
        self.assertIs(is_proper([contour_of(1)]), False)
        self.assertIs(is_proper([[]]), False)
        self.assertIs(is_proper([SQUARE, contour_of(1)]), False)
        self.assertIs(is_proper([SQUARE, []]), False)

    def test_200_points_and_201(self):
        self.assertIs(is_proper([contour_of(200)]), True)
        self.assertIs(is_proper([contour_of(201)]), False)
        self.assertIs(is_proper([contour_of(100), contour_of(100)]), True)
        self.assertIs(is_proper([contour_of(100), contour_of(101)]), False)

    def test_coordinates_at_their_limits(self):
        for on in (True, False):
            for n in (FAR, -FAR):
                self.assertIs(is_proper([[(0, 0, True), (n, 0, on)]]), True)
                self.assertIs(is_proper([[(0, 0, True), (0, n, on)]]), True)
            for n in (FAR + 1, -FAR - 1):
                self.assertIs(is_proper([[(0, 0, True), (n, 0, on)]]), False)
                self.assertIs(is_proper([[(0, 0, True), (0, n, on)]]), False)
                self.assertIs(is_proper([SQUARE, [(n, 0, on), (0, 0, True)]]), False)


class MeasuresTest(unittest.TestCase):
    def test_count_points(self):
        self.assertEqual(count_points([]), 0)
        self.assertEqual(count_points([[], []]), 0)
        self.assertEqual(count_points([SQUARE, contour_of(1), contour_of(3)]), 8)

    def test_box(self):
        self.assertEqual(box([SQUARE]), (0, 0, 4, 4))
        self.assertEqual(box([[(5, -3, False)]]), (5, -3, 5, -3))
        self.assertEqual(box([SQUARE, [(-9, 2, True), (1, 30, False)]]), (-9, 0, 4, 30))

    def test_box_without_points(self):
        self.assertIsNone(box([]))
        self.assertIsNone(box([[], []]))
        self.assertEqual(box([[], [(1, 2, True)]]), (1, 2, 1, 2))

    def test_turning_sum(self):
        self.assertEqual(turning_sum([SQUARE]), 32)
        self.assertEqual(turning_sum([SQUARE, SQUARE]), 64)
        self.assertEqual(turning_sum([[(0, 0, False), (0, 5, True), (3, 0, False)]]), -15)

    def test_turning_sum_of_short_contours(self):
        self.assertEqual(turning_sum([]), 0)
        self.assertEqual(turning_sum([[], [(7, 8, True)], [(1, 2, True), (3, 4, False)]]), 0)


class ChangesTest(unittest.TestCase):
    def test_reversed_outline(self):
        self.assertEqual(reversed_outline([SQUARE])[0], [SQUARE[0], SQUARE[3], SQUARE[2], SQUARE[1]])
        self.assertEqual(reversed_outline([SQUARE])[0][1], (0, 4, True))

    def test_reversed_outline_of_short_contours(self):
        outline = [[], [(1, 2, False)], [(1, 2, True), (3, 4, False)]]
        self.assertEqual(reversed_outline(outline), outline)
        self.assertEqual(reversed_outline([]), [])

    def test_moved(self):
        self.assertEqual(moved([[(1, 2, False), (3, 4, True)], []], 10, -20), [[(11, -18, False), (13, -16, True)], []])
        self.assertEqual(moved([[(1, 2, True)]], 0, 5), [[(1, 7, True)]])
        self.assertEqual(moved([], 1, 1), [])

    def test_lists_that_are_returned_are_new(self):
        outline = [list(SQUARE), [(1, 2, True)], []]
        for result in (moved(outline, 0, 0), reversed_outline(outline)):
            for contour in result:
                contour.append((9, 9, True))
            result.append([])
        self.assertEqual(outline, [SQUARE, [(1, 2, True)], []])

    def test_arguments_are_not_modified(self):
        for outline in some_outlines():
            before = copy.deepcopy(outline)
            for function in (is_proper, count_points, box, turning_sum, reversed_outline, lines):
                function(outline)
                self.assertEqual(outline, before)
            moved(outline, 3, 4)
            self.assertEqual(outline, before)


class LinesTest(unittest.TestCase):
    def test_the_examples_of_the_interface(self):
        line = [(0, 0), (15, 1), (28, 4), (39, 9), (48, 16), (55, 25), (60, 36), (63, 49), (64, 64)]
        self.assertEqual(lines([[(0, 0, True), (64, 0, False), (64, 64, True)]]), [line])
        self.assertEqual(lines([[(0, 0, False), (10, 0, False)]])[0][0], (5, 0))

    def test_all_on(self):
        self.assertEqual(lines([SQUARE]), [[(0, 0), (4, 0), (4, 4), (0, 4)]])
        self.assertEqual(lines([[(1, -2, True), (3, 4, True)]]), [[(1, -2), (3, 4)]])

    def test_short_contours(self):
        self.assertEqual(lines([]), [])
        self.assertEqual(lines([[]]), [[]])
        self.assertEqual(lines([[(5, -6, True)]]), [[(5, -6)]])
        self.assertEqual(lines([[(5, -6, False)]]), [[(5, -6)] * 8])

    def test_all_off(self):
        line = lines([[(0, 0, False), (10, 0, False)]])[0]
        self.assertEqual(len(line), 16)
        self.assertEqual((line[0], line[8]), ((5, 0), (5, 0)))
        self.assertEqual((line[4], line[12]), ((3, 0), (8, 0)))

    def test_middle_points_are_rounded_down(self):
        line = lines([[(0, 0, False), (-3, -5, False)]])[0]
        self.assertEqual((line[0], line[8]), ((-2, -3), (-2, -3)))
        line = lines([[(0, 0, True), (1, 7, False), (2, 10, False)]])[0]
        self.assertEqual(line[8], (1, 8))

    def test_it_begins_with_the_first_point_that_is_on(self):
        contour = [(0, 0, False), (10, 0, False), (10, 10, True), (0, 10, True)]
        line = lines([contour])[0]
        self.assertEqual(line[:2], [(10, 10), (0, 10)])
        self.assertEqual(len(line), 17)

    def test_the_last_curve_is_without_its_end(self):
        line = lines([[(0, 0, True), (64, 0, False)]])[0]
        self.assertEqual(len(line), 8)
        self.assertEqual(line, [(0, 0), (14, 0), (24, 0), (30, 0), (32, 0), (30, 0), (24, 0), (14, 0)])

    def test_rounding_below_0(self):
        line = lines([[(0, 0, True), (-64, 0, False), (-64, -64, True)]])[0]
        self.assertEqual(line, [(0, 0), (-15, -1), (-28, -4), (-39, -9), (-48, -16), (-55, -25), (-60, -36),
                                (-63, -49), (-64, -64)])
        line = lines([[(0, 0, True), (-1, 0, False)]])[0]
        self.assertEqual([x for x, _ in line], [0, 0, 0, 0, 0, 0, 0, 0])
        line = lines([[(0, 0, True), (-3, 0, False)]])[0]
        self.assertEqual([x for x, _ in line], [0, -1, -1, -1, -1, -1, -1, -1])

    def test_points_on_and_off_in_any_order(self):
        for outline in some_outlines():
            self.assertEqual(lines(outline), [expected_line(contour) for contour in outline])


class FactsTest(unittest.TestCase):
    def test_reversing_twice_changes_nothing(self):
        for outline in some_outlines():
            self.assertEqual(reversed_outline(reversed_outline(outline)), outline)

    def test_reversing_changes_the_sign_of_the_turning_sum(self):
        for outline in some_outlines():
            self.assertEqual(turning_sum(reversed_outline(outline)), -turning_sum(outline))

    def test_lines_lie_in_the_boxes_of_their_points(self):
        for contour in some_contours():
            for x, y in lines([contour])[0]:
                least_x, least_y, greatest_x, greatest_y = box([contour])
                self.assertTrue(least_x <= x <= greatest_x and least_y <= y <= greatest_y)

    def test_lines_are_moved_with_their_points(self):
        for outline in some_outlines():
            for across, along in ((1, 0), (-7, 13), (1000, -3333)):
                expected = [[(x + across, y + along) for x, y in line] for line in lines(outline)]
                self.assertEqual(lines(moved(outline, across, along)), expected)


if __name__ == "__main__":
    unittest.main()
