"""Points 77 to 81, and the interface of fleuron/packing.py."""

import copy
import random
import unittest

from fleuron.errors import FleuronError, InvalidPacking
from fleuron.fonts import Font, Glyph, Lookup, Rule, same_font
from fleuron.packing import digits_of, numbers_of, pack, unpack
from tests.packed_by_points import Slow, digits_by_points, packed_by_points
from tests.whole_fonts import whole_font

WORDS = ("push", "look", "between", "or", "subtract")


def small_font(**options):
    """Return a font with one glyph and something more."""
    return Font(100, [Glyph(5, [])], **options)


def hinted(source, many, reach=2147483647):
    """Return a font with a hint of so many random instructions."""
    hint = [(source.choice(WORDS), source.randint(-reach, reach)) for _ in range(many)]
    return Font(100, [Glyph(5, [], hint=hint)])


def refused(numbers):
    """Return True if a list is refused as no packed list."""
    try:
        unpack(numbers)
    except InvalidPacking:
        return True
    return False


class ExamplesTest(unittest.TestCase):
    def test_the_examples_of_the_interface(self):
        self.assertEqual((digits_of(5), digits_of(-1), digits_of(100)), ([10], [1], [72, 3]))
        font = Font(100, [Glyph(5, [])])
        self.assertEqual(numbers_of(font), [100, 1, 5, 0, 0, 0, 0, 0, 0, 0, 0, 0, 0, 0, 0, 0])
        self.assertIs(same_font(unpack(pack(font)), font), True)
        with self.assertRaises(InvalidPacking):
            unpack([])


class NumbersTest(unittest.TestCase):
    def behind(self, font, start):
        """Return the numbers of a font but for the zeros at their end, behind those that stand at their start."""
        numbers = numbers_of(font)
        self.assertEqual(numbers[:len(start)], start)
        return numbers[len(start):]

    def test_a_glyph(self):
        glyph = Glyph(
            7, [[(1, -2, True), (3, 4, False)], [(5, 6, True), (7, 8, True), (9, 10, False)]],
            parts=[(0, 11, -12)], anchors=[("base", 0, 1, 2), ("mark", 1, 3, 4), ("entry", 2, 5, 6), ("exit", 9, -7, 8)],
            mark=True, deltas=[(0, -1, 13, 14)], hint=[("go", 1), ("jumpzero", -5)],
        )
        font = Font(100, [Glyph(0, []), glyph], axes=[(0, 0, 1)], regions=[[(-1, 0, 2)]])
        self.assertEqual(numbers_of(font), [
            100, 2, 0, 0, 0, 0, 0, 0, 0,
            7, 2, 2, 1, -2, 1, 3, 4, 0, 3, 5, 6, 1, 7, 8, 1, 9, 10, 0,
            1, 0, 11, -12,
            4, 0, 0, 1, 2, 1, 1, 3, 4, 2, 2, 5, 6, 3, 9, -7, 8,
            1,
            1, 0, -1, 13, 14,
            2, 2, 6, 14, 1, 8, 9, 20, 12, 15, 25, 4, 17, 14, -5,
            0, 0, 0,
            1, 0, 0, 1,
            1, 1, -1, 0, 2,
            0, 0,
        ])

    def test_chars_features_axes_regions_functions_and_presets(self):
        font = small_font(
            chars=[(97, 0), (98, 0)], lookups=[Lookup("pair", [])] * 3, features=[("az", [0, 2]), ("b", [])],
            axes=[(-1, 0, 2), (3, 4, 5)], regions=[[(1, 2, 3), (-6, -5, 0)], [(0, 0, 0), (0, 64, 64)]],
            functions=[[("up", 9)], []], presets=[5, -6],
        )
        self.assertEqual(self.behind(font, [100, 1, 5, 0, 0, 0, 0, 0, 0]), [
            2, 97, 0, 98, 0,
            3, 5, 0, 0, 5, 0, 0, 5, 0, 0,
            2, 2, 0, 25, 2, 0, 2, 1, 1, 0,
            2, -1, 0, 2, 3, 4, 5,
            2, 2, 1, 2, 3, -6, -5, 0, 2, 0, 0, 0, 0, 64, 64,
            2, 1, 2, 20, 15, 9, 0,
            2, 5, -6,
        ])

    def test_lookups_of_each_kind(self):
        kinds = "single multiple ligature chain reverse pair cursive marks".split()
        for place, kind in enumerate(kinds):
            for ignore in (False, True):
                font = small_font(lookups=[Lookup(kind, [], ignore=ignore)])
                self.assertEqual(self.behind(font, [100, 1, 5, 0, 0, 0, 0, 0, 0, 0]), [1, place, int(ignore), 0] + [0] * 5)

    def test_rules(self):
        lookups = [
            Lookup("single", [Rule([[0, 1]], out=[1, 0])]),
            Lookup("chain", [Rule([[0], [0, 1]], back=[[1]], ahead=[[1], [0], [0, 1]], calls=[(0, 0), (1, 0)]), Rule([[1]])]),
            Lookup("pair", [Rule([[0], [1]], extra=-9)]),
        ]
        font = Font(100, [Glyph(0, []), Glyph(0, [])], lookups=lookups)
        self.assertEqual(self.behind(font, [100, 2] + [0] * 15), [
            3,
            0, 0, 1, 1, 2, 0, 1, 0, 0, 2, 1, 0, 0, 0,
            3, 0, 2, 2, 1, 0, 2, 0, 1, 1, 1, 1, 3, 1, 1, 1, 0, 2, 0, 1, 0, 2, 0, 0, 1, 0, 0,
            1, 1, 1, 0, 0, 0, 0, 0,
            5, 0, 1, 2, 1, 0, 1, 1, 0, 0, 0, 0, -9,
            0, 0, 0, 0, 0,
        ])

    def test_they_are_integers_and_new(self):
        font = Font(100, [Glyph(5, [[(1, 2, True), (3, 4, False)]], mark=True)], presets=[3])
        numbers = numbers_of(font)
        self.assertTrue(all(type(n) is int for n in numbers))
        numbers.append(1)
        self.assertEqual(numbers_of(font), numbers[:-1])


class DigitsTest(unittest.TestCase):
    def test_small_integers(self):
        for n, digits in {0: [0], -1: [1], 1: [2], 31: [62], -32: [63], 32: [64, 1], -33: [65, 1], 63: [126, 1], 64: [64, 2],
                          -64: [127, 1], 2047: [126, 63], -2048: [127, 63], 2048: [64, 64, 1]}.items():
            self.assertEqual(digits_of(n), digits, n)

    def test_great_integers(self):
        for n in (10 ** 30, -10 ** 30, 10 ** 30 - 1, 64 ** 16, 64 ** 16 // 2, -(64 ** 16) // 2, 64 ** 16 // 2 - 1):
            digits = digits_of(n)
            self.assertEqual(digits, digits_by_points(n))
            self.assertTrue(all(64 <= digit < 128 for digit in digits[:-1]))
            self.assertTrue(0 < digits[-1] < 64)
            m = sum(digit % 64 * 64 ** place for place, digit in enumerate(digits))
            self.assertEqual(m, 2 * n if n >= 0 else -2 * n - 1)

    def test_different_integers_have_different_digits(self):
        self.assertEqual(len({tuple(digits_of(n)) for n in range(-5000, 5000)}), 10000)


class PackTest(unittest.TestCase):
    def test_a_small_font(self):
        # The digits of 100 are 72 and 3: low is 72 * 2 ** 25 + 3 * 2 ** 18 * .. and so on, as the points tell.
        self.assertEqual(pack(small_font()), packed_by_points([100, 1, 5] + [0] * 13))
        self.assertEqual(pack(small_font())[0], 144)

    def test_many_fonts(self):
        source = random.Random(80)
        for _ in range(60):
            font = whole_font(source)
            packed = pack(font)
            self.assertEqual(packed, packed_by_points(numbers_of(font)))
            self.assertTrue(all(0 <= n <= 255 for n in packed))
            again = unpack(packed)
            self.assertTrue(same_font(again, font))
            self.assertEqual(again.glyphs[0].mark, font.glyphs[0].mark)

    def test_counts_that_become_halves(self):
        source = random.Random(79)
        font = hinted(source, 2500)
        slow = Slow()
        for n in numbers_of(font):
            slow.write(n)
        self.assertGreater(len(slow.sums), 20)
        # Just at the limit, and one more.
        self.assertIn(16384, slow.sums)
        self.assertIn(16385, slow.sums)
        self.assertEqual(pack(font), slow.packed())
        self.assertTrue(same_font(unpack(pack(font)), font))

    def test_carries_through_several_numbers_of_255(self):
        longest = 0
        for unit in range(16, 60):
            font, carried = carrying_font(unit)
            if font is not None:
                packed = pack(font)
                self.assertEqual(packed, packed_by_points(numbers_of(font)))
                self.assertTrue(same_font(unpack(packed), font))
                longest = max(longest, carried)
        self.assertGreaterEqual(longest, 4)

    def test_different_fonts_have_different_lists(self):
        source = random.Random(81)
        lists = [pack(Font(unit, [Glyph(advance, [])])) for unit in range(90, 110) for advance in range(20)]
        lists += [pack(whole_font(source)) for _ in range(40)]
        lists = sorted(lists)
        for first, second in zip(lists, lists[1:]):
            self.assertNotEqual(second[:len(first)], first)

    def test_nothing_is_modified(self):
        font = whole_font(random.Random(5))
        before = copy.deepcopy(font)
        numbers = pack(font)
        copied = list(numbers)
        unpack(numbers)
        self.assertTrue(same_font(font, before))
        self.assertEqual(numbers, copied)
        numbers.append(3)
        self.assertEqual(pack(font), copied)


def carrying_font(unit):
    """Return a font in whose packing 1 is carried, and through how many numbers of 255; or None and 0.

    Its presets are chosen so that low stays just below a number with zeros at its end, until the last preset.
    """
    slow = Slow()
    # Points with many different numbers, so that no digit is a cheap one.
    glyph = Glyph(5, [[(k, -k, True) for k in range(0, 100)]])
    # The number of presets is written before them.
    for n in numbers_of(Font(unit, [glyph]))[:-1] + [32]:
        slow.write(n)
    bound = (slow.low // 65536 + 1) * 65536
    presets = []
    for _ in range(31):
        n, bound = preset_below(slow, bound)
        if n is None:
            return None, 0
        presets.append(n)
    before = list(slow.low.to_bytes(slow.many + 4, "big"))[:-4]
    carried = 0
    while before.pop() == 255:
        carried += 1
    digit = digit_at(slow, 0, bound)[0] + 1
    if digit > 63:
        return None, 0
    return Font(unit, [glyph], presets=presets + [integer_of([digit])]), carried


def preset_below(slow, bound):
    """Write the preset behind which low is below the bound, and the end of the interval above it; return both."""
    digits = []
    while not digits or digits[-1] > 63:
        digit, above = digit_at(slow, min(len(digits), 1), bound)
        if digit is None or above == 0 or len(digits) == 3:
            return None, bound
        many = slow.many
        slow.write_digit(digit, min(len(digits), 1))
        bound *= 256 ** (slow.many - many)
        digits.append(digit)
    n = integer_of(digits)
    if digits_by_points(n) != digits or not -32768 <= n <= 32767:
        return None, bound
    return n, bound


def digit_at(slow, which, bound):
    """Return the digit within whose interval the bound lies, or None, and how far the bound is from its beginning."""
    table = slow.tables[which]
    step = slow.width // sum(table)
    for digit in range(128):
        low = slow.low + step * sum(table[:digit])
        if low <= bound < low + step * table[digit]:
            return digit, bound - low
    return None, 0


def integer_of(digits):
    """Return the integer with the digits."""
    m = sum(digit % 64 * 64 ** place for place, digit in enumerate(digits))
    return m // 2 if m % 2 == 0 else -(m + 1) // 2


class UnpackTest(unittest.TestCase):
    def test_lists_of_up_to_three_numbers(self):
        for numbers in ([], [0], [255], [144], [0, 0], [144, 12], [0, 0, 0], [255, 255, 255], [144, 12, 14]):
            self.assertTrue(refused(numbers), numbers)
        with self.assertRaises(InvalidPacking) as caught:
            unpack([0, 0, 0, 0])
        self.assertIsInstance(caught.exception, FleuronError)

    def test_a_number_too_few_too_many_or_another_one(self):
        source = random.Random(81)
        fonts = [small_font()] + [whole_font(source, most=5) for _ in range(3)]
        for font in fonts:
            packed = pack(font)
            self.assertTrue(refused(packed[:-1]))
            self.assertTrue(refused(packed[:-4]))
            for n in (0, 1, 255):
                self.assertTrue(refused(packed + [n]))
                self.assertTrue(refused([n] + packed))
            self.assertTrue(refused(packed + [0, 0, 0, 0]))
            self.assertTrue(refused(packed + packed))
            for at in range(0, len(packed), max(1, len(packed) // 40)):
                for change in (1, 128, 255):
                    other = list(packed)
                    other[at] = (other[at] + change) % 256
                    try:
                        self.assertEqual(pack(unpack(other)), other)
                    except InvalidPacking:
                        pass
            # The last four numbers are those of low, and so no others.
            for at in range(1, 5):
                for change in (1, 255):
                    other = list(packed)
                    other[-at] = (other[-at] + change) % 256
                    if at < 3:
                        self.assertTrue(refused(other))

    def test_random_lists(self):
        source = random.Random(82)
        for _ in range(300):
            numbers = [source.randrange(256) for _ in range(source.randrange(60))]
            self.assertTrue(refused(numbers))
        for n in range(0, 256, 5):
            self.assertTrue(refused([n] * 300))

    def packed(self, numbers):
        """Return the list of numbers that are perhaps those of no font."""
        return packed_by_points(numbers)

    def test_numbers_that_no_font_has(self):
        good = [100, 1, 5] + [0] * 13
        self.assertFalse(refused(self.packed(good)))
        for at, n in ((0, 15), (0, 16385), (0, -1), (1, 0), (1, -1), (2, -1), (2, 16385), (3, -1), (6, 2), (6, -1), (9, -1),
                      (10, -1), (11, 1), (15, -1), (15, 33)):
            wrong = list(good)
            wrong[at] = n
            self.assertTrue(refused(self.packed(wrong)), (at, n))
        # More numbers, or fewer. Nothing is written for a 0 more, so that the list stays the same then.
        self.assertTrue(refused(self.packed(good + [1])))
        self.assertTrue(refused(self.packed(good[:-1] + [2, 7, 7, 7])))
        self.assertFalse(refused(self.packed(good[:-1] + [2, 7, 7])))
        self.assertEqual(self.packed(good + [0]), self.packed(good))

    def test_flags_kinds_and_letters(self):
        def with_lookup(kind, ignore):
            return self.packed([100, 1, 5] + [0] * 7 + [1, kind, ignore, 0] + [0] * 5)

        def with_hint(word):
            return self.packed([100, 1, 5, 0, 0, 0, 0, 0, 1, len(word)] + word + [3] + [0] * 7)

        def with_point(on):
            return self.packed([100, 1, 5, 1, 2, 0, 0, on, 0, 0, 1] + [0] * 11)

        def with_anchor(kind):
            return self.packed([100, 1, 5, 0, 0, 1, kind, 0, 0, 0] + [0] * 10)

        self.assertEqual([refused(with_lookup(7, flag)) for flag in (-1, 0, 1, 2)], [True, False, False, True])
        self.assertEqual([refused(with_lookup(kind, 0)) for kind in (-1, 0, 7, 8)], [True, False, False, True])
        self.assertEqual([refused(with_point(on)) for on in (-1, 0, 1, 2)], [True, False, False, True])
        self.assertEqual([refused(with_anchor(kind)) for kind in (-1, 0, 3, 4)], [True, False, False, True])
        for word, wrong in (([6, 14], False), ([6, -12], True), ([6, 26], True), ([6], True), ([], True), ([6, 14, 14], True)):
            self.assertIs(refused(with_hint(word)), wrong, word)

    def test_digits_that_are_no_digits_of_an_integer(self):
        for digits in ([64, 0], [74, 64, 0], [64, 64, 64, 64, 64, 0], [64] * 7 + [1], [127] * 9 + [1], [64] * 50 + [1]):
            slow = Slow()
            for n in [100, 1]:
                slow.write(n)
            for place, digit in enumerate(digits):
                slow.write_digit(digit, min(place, 1))
            for n in [0] * 13:
                slow.write(n)
            self.assertTrue(refused(slow.packed()), digits)
        slow = Slow()
        for n in [100, 1]:
            slow.write(n)
        slow.write_digit(64, 0)
        slow.write_digit(1, 1)
        for n in [0] * 13:
            slow.write(n)
        self.assertEqual(unpack(slow.packed()).glyphs[0].advance, 32)

    def test_the_greatest_numbers(self):
        hint = [("push", -2147483648), ("push", 2147483647)]
        font = Font(16384, [Glyph(16384, [[(-16384, 16384, True), (16384, -16384, False)]], hint=hint)],
                    chars=[(0, 0), (1114111, 0)], presets=[-32768, 32767])
        self.assertTrue(same_font(unpack(pack(font)), font))

    def test_lists_of_40000_and_40001(self):
        self.assertTrue(refused([0] * 40000))
        self.assertTrue(refused([0] * 40001))
        self.assertTrue(refused([255] * 40000))
        source = random.Random(40000)
        hint = [(source.choice(WORDS), source.randint(-2147483647, 2147483647)) for _ in range(6000)]
        many = 6000 * 39980 // len(pack(Font(100, [Glyph(5, [], hint=hint)])))
        reached = {}
        presets = []
        while not (40000 in reached and 40001 in reached):
            font = Font(100, [Glyph(5, [], hint=hint[:many])], presets=presets)
            packed = pack(font)
            reached[len(packed)] = (font, packed)
            # Back, and on with other numbers, if the list is too long.
            presets = presets[:-3] if len(packed) > 40000 else presets + [source.randint(-99, 99)]
        self.assertTrue(same_font(unpack(reached[40000][1]), reached[40000][0]))
        self.assertTrue(refused(reached[40001][1]))


if __name__ == "__main__":
    unittest.main()
