"""Points 17 to 20, and the interface of fleuron/texts.py."""

import random
import unittest

from fleuron.errors import InvalidFont, TextError, TooLarge
from fleuron.fonts import Font, Glyph, Lookup, Rule, same_font
from fleuron.texts import read_font, write_font

FULL = """font 1000
presets 64 -32 0
axis 100 400 900
axis -5 0 5
region 0 64 64 -64 0 64
region -64 -64 0 0 0 0
function
function push 1 add 0
glyph 500
glyph 300 mark
contour 0 0 on 10 0 off 10 -10 on
contour -5 5 off 6 6 off
part 0 10 -20
part 0 0 0
anchor base 0 5 -6
anchor exit 9 0 0
delta 0 4 -7 8
delta 1 -1 100 0
hint push -2147483648 drop 0
glyph 0
hint setvalue 0 jumpzero 0
glyph 1
lookup single
rule 0 2 out 1 1
rule 1 out 0
lookup multiple ignore
rule 1
rule 0 out 0 1 2
lookup ligature
rule 0 then 1 2 then 0 out 3
lookup chain ignore
rule 0 1 then 2 back 0 then 1 ahead 3 then 0 1 2 calls 0 0 1 1
rule 3 calls 0 1
rule 3 ahead 0
lookup reverse
rule 0 1 back 2 out 1 0
lookup pair
rule 0 then 1 extra -50
rule 1 then 0
lookup cursive
lookup marks
rule 0 then 1
feature swap 0 1 3
feature a
char 0 3
char 97 0
char 1114111 1
"""
HEADS = {
    "font": "", "presets": "font 100\n", "axis": "font 100\n", "region": "font 100\n", "function": "font 100\n",
    "glyph": "font 100\n", "contour": "font 100\nglyph 5\n", "part": "font 100\nglyph 5\n",
    "anchor": "font 100\nglyph 5\n", "delta": "font 100\nglyph 5\n", "hint": "font 100\nglyph 5\n",
    "lookup": "font 100\nglyph 5\n", "rule": "font 100\nglyph 5\nlookup pair\n", "feature": "font 100\nglyph 5\n",
    "char": "font 100\nglyph 5\n",
}
# For each first word the words that may stand behind a line that begins with it.
FOLLOWERS = {
    "font": "presets axis region function glyph lookup feature char",
    "presets": "axis region function glyph lookup feature char",
    "axis": "axis region function glyph lookup feature char",
    "region": "region function glyph lookup feature char",
    "function": "function glyph lookup feature char",
    "glyph": "contour part anchor delta hint glyph lookup feature char",
    "contour": "contour part anchor delta hint glyph lookup feature char",
    "part": "part anchor delta hint glyph lookup feature char",
    "anchor": "anchor delta hint glyph lookup feature char",
    "delta": "delta hint glyph lookup feature char",
    "hint": "glyph lookup feature char",
    "lookup": "rule lookup feature char",
    "rule": "rule lookup feature char",
    "feature": "feature char",
    "char": "char",
}
# A line for each first word whose words are as told.
SAMPLES = {
    "font": "font 100", "presets": "presets 1", "axis": "axis 0 0 0", "region": "region", "function": "function",
    "glyph": "glyph 5", "contour": "contour 0 0 on 1 1 on", "part": "part 0 0 0", "anchor": "anchor base 0 0 0",
    "delta": "delta 0 0 0 0", "hint": "hint push 1", "lookup": "lookup single", "rule": "rule 0",
    "feature": "feature a", "char": "char 5 0",
}
WRONG_INTS = ("-0", "00", "01", "-01", "007", "12345678901", "-12345678901", "-", "--", "--1", "1-", "1-2", "-1-")


def full_font():
    """Return the font whose text is FULL."""
    return Font(
        1000,
        [
            Glyph(500, []),
            Glyph(
                300,
                [[(0, 0, True), (10, 0, False), (10, -10, True)], [(-5, 5, False), (6, 6, False)]],
                parts=[(0, 10, -20), (0, 0, 0)],
                anchors=[("base", 0, 5, -6), ("exit", 9, 0, 0)],
                mark=True,
                deltas=[(0, 4, -7, 8), (1, -1, 100, 0)],
                hint=[("push", -2147483648), ("drop", 0)],
            ),
            Glyph(0, [], hint=[("setvalue", 0), ("jumpzero", 0)]),
            Glyph(1, []),
        ],
        chars=[(0, 3), (97, 0), (1114111, 1)],
        lookups=[
            Lookup("single", [Rule([[0, 2]], out=[1, 1]), Rule([[1]], out=[0])]),
            Lookup("multiple", [Rule([[1]]), Rule([[0]], out=[0, 1, 2])], ignore=True),
            Lookup("ligature", [Rule([[0], [1, 2], [0]], out=[3])]),
            Lookup("chain", [
                Rule([[0, 1], [2]], back=[[0], [1]], ahead=[[3], [0, 1, 2]], calls=[(0, 0), (1, 1)]),
                Rule([[3]], calls=[(0, 1)]),
                Rule([[3]], ahead=[[0]]),
            ], ignore=True),
            Lookup("reverse", [Rule([[0, 1]], back=[[2]], out=[1, 0])]),
            Lookup("pair", [Rule([[0], [1]], extra=-50), Rule([[1], [0]])]),
            Lookup("cursive", []),
            Lookup("marks", [Rule([[0], [1]])]),
        ],
        features=[("swap", [0, 1, 3]), ("a", [])],
        axes=[(100, 400, 900), (-5, 0, 5)],
        regions=[[(0, 64, 64), (-64, 0, 64)], [(-64, -64, 0), (0, 0, 0)]],
        functions=[[], [("push", 1), ("add", 0)]],
        presets=[64, -32, 0],
    )


class Reading(unittest.TestCase):
    def assert_error(self, text, line, reason):
        """Reading the text is refused for this line and this reason."""
        with self.assertRaises(TextError) as caught:
            read_font(text)
        self.assertEqual((caught.exception.line, caught.exception.reason), (line, reason), text)

    def assert_line(self, line, reason):
        """A line where it may stand is refused for the reason, or, for None, not refused."""
        head = HEADS[line.split(" ")[0]]
        if reason is not None:
            self.assert_error(head + line, head.count("\n") + 1, reason)
            return
        try:
            read_font(head + line)
        except InvalidFont:
            pass


class ReadTest(Reading):
    def test_the_examples_of_the_interface(self):
        text = ("font 1000\nglyph 500\nglyph 300 mark\npart 0 10 -20\nlookup single\nrule 0 out 1\nfeature swap 0\n"
                "char 97 0\n")
        font = read_font(text)
        found = (font.glyphs[1].mark, font.glyphs[1].parts, font.lookups[0].rules[0].out)
        self.assertEqual(found, (True, [(0, 10, -20)], [1]))
        self.assertEqual(write_font(font), text)
        with self.assertRaises(TextError):
            read_font("font 1000\nglyph x")

    def test_every_kind_of_line(self):
        self.assertTrue(same_font(read_font(FULL), full_font()))

    def test_without_the_newline_at_the_end(self):
        self.assertTrue(same_font(read_font(FULL[:-1]), full_font()))

    def test_the_shortest_font(self):
        font = read_font("font 16\nglyph 0")
        self.assertTrue(same_font(font, Font(16, [Glyph(0, [])])))

    def test_an_extra_of_0_may_be_told(self):
        font = read_font("font 16\nglyph 0\nlookup pair\nrule 0 then 0 extra 0")
        self.assertEqual(font.lookups[0].rules[0].extra, 0)

    def test_integers(self):
        for word in ("0", "7", "10", "-1", "1234567890", "-1234567890", "9999999999", "-9999999999"):
            for first in ("font", "presets", "axis", "glyph", "part", "char"):
                numbers = {"axis": 3, "part": 3, "char": 2}.get(first, 1)
                self.assert_line(" ".join([first] + [word] * numbers), None)

    def test_what_is_read_has_the_kinds_of_the_document(self):
        font = read_font(FULL)
        self.assertIs(font.glyphs[0].mark, False)
        self.assertIs(font.glyphs[1].mark, True)
        self.assertIs(font.lookups[0].ignore, False)
        self.assertIs(font.lookups[1].ignore, True)
        self.assertIs(font.glyphs[1].outline[0][0][2], True)
        self.assertIs(font.glyphs[1].outline[0][1][2], False)


class WriteTest(Reading):
    def test_every_kind_of_line(self):
        self.assertEqual(write_font(full_font()), FULL)

    def test_the_shortest_font(self):
        self.assertEqual(write_font(Font(16, [Glyph(0, [])])), "font 16\nglyph 0\n")

    def test_a_region_without_axes(self):
        font = Font(16, [Glyph(0, [], deltas=[(0, -1, 1, 0)])], regions=[[], []])
        self.assertEqual(write_font(font), "font 16\nregion\nregion\nglyph 0\ndelta 0 -1 1 0\n")
        self.assertTrue(same_font(read_font(write_font(font)), font))

    def test_an_extra_of_0_is_not_written(self):
        text = "font 16\nglyph 0\nlookup pair\nrule 0 then 0"
        self.assertEqual(write_font(read_font(text + " extra 0\n")), text + "\n")

    def test_writing_does_not_change_the_font(self):
        font = full_font()
        self.assertEqual(write_font(font), write_font(font))
        self.assertTrue(same_font(font, full_font()))

    def test_writing_and_reading_gives_the_same(self):
        source = random.Random(20)
        for _ in range(100):
            font = some_font(source)
            text = write_font(font)
            self.assertTrue(same_font(read_font(text), font))
            self.assertEqual(write_font(read_font(text)), text)

    def test_a_font_whose_text_is_too_long_is_written(self):
        font = Font(16, [Glyph(0, [])], chars=[(code, 0) for code in range(7000)])
        text = write_font(font)
        self.assertGreater(len(text), 60000)
        with self.assertRaises(TooLarge):
            read_font(text)


def some_font(source):
    """Return a font with something of many kinds in it."""
    def numbers(most, low, high):
        return [source.randint(low, high) for _ in range(source.randint(0, most))]

    def chosen():
        return sorted(source.sample(range(4), source.randint(1, 4)))

    def sets(least, most):
        return [chosen() for _ in range(source.randint(least, most))]

    axes = [tuple(sorted(source.sample(range(-900, 900), 3))) for _ in range(source.randint(0, 3))]
    regions = [[tuple(sorted((0, source.randint(0, 64), 64))) for _ in axes] for _ in range(source.randint(0, 3))]
    words = ("push", "between", "jumpzero")
    glyphs = [
        Glyph(
            source.randint(0, 16384),
            [
                [(x, -x * 3, source.random() < 0.5) for x in numbers(5, -50, 50) + [1, 2]]
                for _ in range(source.randint(0, 3))
            ],
            parts=[(source.randrange(k), x, -x) for x in numbers(3, -99, 99)] if 0 < k < 4 else [],
            anchors=[(source.choice(("base", "mark", "entry", "exit")), 3, x, -x) for x in numbers(3, -99, 99)],
            mark=source.random() < 0.5,
            deltas=[(source.randrange(len(regions)), -1, x, -x) for x in numbers(3, -99, 99)] if regions else [],
            hint=[(source.choice(words), n) for n in numbers(4, -2147483648, 2147483647)],
        )
        for k in range(4)
    ]
    lookups = [
        Lookup("single", [Rule([chosen_set], out=chosen_set[::-1]) for chosen_set in sets(0, 3)], ignore=True),
        Lookup("multiple", [Rule([some], out=numbers(8, 0, 3)) for some in sets(0, 3)]),
        Lookup("ligature", [Rule(sets(2, 4), out=[source.randrange(4)])]),
        Lookup("chain", [Rule(sets(1, 4), back=sets(0, 3), ahead=sets(0, 3), calls=[(0, 1)]) for _ in range(3)]),
        Lookup("pair", [Rule(sets(2, 2), extra=extra) for extra in numbers(4, -3, 3)]),
    ]
    return Font(
        source.randint(16, 16384), glyphs,
        chars=[(code, source.randrange(4)) for code in sorted(source.sample(range(1114112), 3))],
        lookups=lookups, features=[("ab", sorted(source.sample(range(5), source.randint(0, 5))))][:source.randint(0, 1)],
        axes=axes, regions=regions,
        functions=[[("add", n) for n in numbers(3, -9, 9)] for _ in range(source.randint(0, 2))],
        presets=numbers(3, -32768, 32767),
    )


class WordReasonTest(Reading):
    def test_empty_words(self):
        for first, sample in SAMPLES.items():
            for line in (sample + " ", " " + sample, sample.replace(" ", "  ") if " " in sample else sample + "  "):
                head = HEADS[first]
                self.assert_error(head + line, head.count("\n") + 1, "word")

    def test_empty_lines(self):
        self.assert_error("\n", 1, "word")
        self.assert_error("\nfont 100", 1, "word")
        self.assert_error("font 100\n\nglyph 5", 2, "word")
        self.assert_error("font 100\nglyph 5\n\n", 3, "word")
        self.assert_error(" ", 1, "word")

    def test_other_first_words(self):
        others = ("fonts", "Font", "mark", "on", "back", "then", "0", "-5", "font\t16", "\r", "out", "inside", "start",
                  "ignore", "extra")
        for line in others:
            self.assert_error(line + " 5", 1, "word")
            self.assert_error("font 100\nglyph 5\n" + line + " 5", 3, "word")

    def test_word_comes_ahead_of_place(self):
        self.assert_error("glyph  5", 1, "word")
        self.assert_error("font 100\nfont ", 2, "word")


class PlaceReasonTest(Reading):
    def test_no_line(self):
        self.assert_error("", 1, "place")

    def test_the_first_line(self):
        for first, sample in SAMPLES.items():
            if first != "font":
                self.assert_error(sample, 1, "place")

    def test_which_line_may_stand_behind_which(self):
        for first, sample in SAMPLES.items():
            head = HEADS[first] + sample + "\n"
            for second, following in SAMPLES.items():
                if second in FOLLOWERS[first].split():
                    try:
                        read_font(head + following)
                    except InvalidFont:
                        pass
                else:
                    self.assert_error(head + following, head.count("\n") + 1, "place")

    def test_place_comes_ahead_of_words_and_number(self):
        self.assert_error("glyph x", 1, "place")
        self.assert_error("font 100\nfont", 2, "place")
        self.assert_error("font 100\nrule -0", 2, "place")
        self.assert_error("presets -0", 1, "place")


class WordsReasonTest(Reading):
    def test_words_that_are_not_as_told(self):
        wrong = """font|font x|font 1 2|font 1x|font +1|font 1.0|presets|presets x|presets 1 x|axis|axis 1 2
            axis 1 2 3 4|axis 1 2 x|region 1|region 1 2|region 1 2 3 4|region 1 2 x|function push|function 1 push
            function push x|function push 1 add|function Push 1|function push 1 2|function abcdefghijklm 1
            function a1 1|glyph|glyph x|glyph mark|glyph 1 2|glyph 1 marks|glyph 1 mark mark|glyph 1 mark 2
            contour|contour 1|contour 1 2|contour 1 2 3|contour 1 2 on 3|contour 1 2 On|contour on 1 2
            contour 1 2 on 3 4|contour x 2 on|part|part 1 2|part 1 2 3 4|part 1 2 x|anchor|anchor base 1 2
            anchor base 1 2 3 4|anchor 1 2 3 4|anchor base x 2 3|anchor Base 1 2 3|anchor abcdefghijklm 1 2 3
            delta|delta 1 2 3|delta 1 2 3 4 5|delta 1 2 3 x|hint|hint push|hint 1|hint push 1 add|hint push push
            hint push 1 2|hint push-up 1|lookup|lookup 1|lookup single ignored|lookup single 1
            lookup single ignore ignore|lookup Single|lookup abcdefghijklm|feature|feature 1|feature swap x
            feature Swap|feature a b|feature abcdefghijklm 1|feature a_ 1|char|char 1|char 1 2 3|char x 1|char 1 x"""
        for line in wrong.replace("\n", "|").split("|"):
            self.assert_line(line.strip(), "words")

    def test_words_that_are_as_told(self):
        right = """presets 1 2 3|region|region 1 2 3 4 5 6|function|function push 1 add 2|function abcdefghijkl 1
            glyph 1|glyph 1 mark|contour 1 2 on|contour 1 2 off 3 4 on|anchor abcdefghijkl 1 2 3|anchor x 1 2 3
            hint push 1|hint odd 1 x 2|lookup odd|lookup ignore ignore|lookup mark|feature abcdefghijkl
            feature a 1 2 3|feature on"""
        for line in right.replace("\n", "|").split("|"):
            self.assert_line(line.strip(), None)

    def test_rules_that_are_not_as_told(self):
        wrong = """rule|rule x|rule then|rule 0 then|rule then 0|rule 0 then then 1|rule back 0|rule 0 back
            rule 0 back then|rule 0 back 1 then|rule 0 ahead|rule 0 ahead x|rule 0 ahead then 1|rule 0 out
            rule 0 out x|rule 0 out 1 then 2|rule 0 calls|rule 0 calls 1|rule 0 calls 1 2 3|rule 0 calls x y
            rule 0 extra|rule 0 extra 1 2|rule 0 extra x|rule 0 ahead 1 back 2|rule 0 out 1 ahead 2
            rule 0 calls 0 0 out 1|rule 0 extra 1 calls 0 0|rule 0 extra 1 out 1|rule 0 back 1 back 2
            rule 0 out 1 out 2|rule 0 extra 1 extra 1|rule inside 0|rule 0 inside 0|rule 0 on 1|rule out 1|rule extra 1
            rule 0 then back 1|rule 0 back 1 out|rule 0 calls 0 0 then 1 1|rule 0 extra 1 2 then 3"""
        for line in wrong.replace("\n", "|").split("|"):
            self.assert_line(line.strip(), "words")

    def test_rules_that_are_as_told(self):
        right = """rule 0|rule 0 1 2|rule 0 then 1 2 then 3|rule 0 back 1|rule 0 back 1 then 2 3|rule 0 ahead 1 then 2
            rule 0 out 1 2 3|rule 0 calls 1 2|rule 0 calls 1 2 3 4|rule 0 extra 5|rule 0 extra -5
            rule 0 back 1 ahead 2 out 3 calls 4 5 extra 6|rule 0 back 1 extra 6|rule 0 ahead 1 calls 0 0"""
        for line in right.replace("\n", "|").split("|"):
            self.assert_line(line.strip(), None)

    def test_words_comes_ahead_of_number(self):
        self.assert_line("axis -0 1", "words")
        self.assert_line("part -0 00 x", "words")
        self.assert_line("rule -0 out", "words")

    def test_digits_of_other_scripts_are_no_digits(self):
        self.assert_line("font \u0663", "words")
        self.assert_line("font \xb2", "words")
        self.assert_line("feature \xe9", "words")


class NumberReasonTest(Reading):
    def test_wrong_integers_in_each_kind_of_line(self):
        shapes = """font *|presets *|presets 1 *|axis * 1 1|axis 1 * 1|axis 1 1 *|region * 1 1|region 1 1 1 1 1 *
            function push *|function push 1 add *|glyph *|glyph * mark|contour * 1 on 1 1 on|contour 1 1 on 1 * off
            part * 1 1|part 1 1 *|anchor base * 1 1|anchor base 1 1 *|delta * 1 1 1|delta 1 * 1 1|delta 1 1 1 *
            hint push *|hint push 1 add *|rule *|rule 1 *|rule 1 then *|rule 1 back *|rule 1 ahead 1 then *|rule 1 out *
            rule 1 calls * 1|rule 1 calls 1 *|rule 1 extra *|feature swap *|feature swap 1 *|char * 1|char 1 *"""
        for shape in shapes.replace("\n", "|").split("|"):
            for word in WRONG_INTS:
                self.assert_line(shape.strip().replace("*", word), "number")
            self.assert_line(shape.strip().replace("*", "1"), None)


class OrderTest(Reading):
    def test_of_several_incorrect_lines_the_first_one(self):
        faults = (("odd 5", "word"), ("font 5", "place"), ("glyph x", "words"), ("glyph -0", "number"))
        for first, reason in faults:
            for second, _ in faults:
                self.assert_error(f"font 100\nglyph 5\n{first}\n{second}\n", 3, reason)

    def test_incorrect_lines_come_ahead_of_faults_of_the_font(self):
        self.assert_error("font 1\nglyph 99999\nchar 5", 3, "words")
        self.assert_error("font 1\nglyph 99999\nchar 5 -0\n", 3, "number")


def text_of(many):
    """Return the text, with so many characters, of a font that is valid."""
    head = "font 16\nglyph 0\nhint"
    rest = many - len(head + "\n")
    return head + " push 1" * (rest // 7) + "0" * (rest % 7) + "\n"


class LengthTest(Reading):
    def test_60000_characters_and_60001(self):
        text = text_of(60000)
        self.assertEqual(len(text), 60000)
        self.assertEqual(write_font(read_font(text)), text)
        for longer in (text_of(60001), text + "\n", text_of(70000)):
            with self.assertRaises(TooLarge) as caught:
                read_font(longer)
            self.assertEqual(caught.exception.limit, "text")

    def test_too_large_comes_ahead_of_incorrect_lines(self):
        self.assert_error("x" * 60000, 1, "word")
        for text in ("x" * 60001, "\n" * 60001, " " * 60001):
            with self.assertRaises(TooLarge):
                read_font(text)


class InvalidFontTest(Reading):
    def test_correct_lines_of_a_font_that_is_invalid(self):
        texts = {
            "unit": "font 1", "glyphs": "font 100", "glyph 0": "font 100\nglyph 16385",
            "glyph 1": "font 100\nglyph 0\nglyph 0\ncontour 0 0 on", "parts": "font 100\nglyph 0\npart 0 0 0",
            "chars": "font 100\nglyph 0\nchar 5 0\nchar 4 0", "lookup 0": "font 100\nglyph 0\nlookup odd",
            "features": "font 100\nglyph 0\nfeature fives", "axes": "font 100\naxis 2 1 0\nglyph 0",
            "regions": "font 100\nregion 0 0 0\nglyph 0", "functions": "font 100\nfunction odd 1\nglyph 0",
            "presets": "font 100\npresets 99999\nglyph 0",
        }
        for place, text in texts.items():
            with self.assertRaises(InvalidFont) as caught:
                read_font(text)
            self.assertEqual(caught.exception.place, place)
        others = ("anchor odd 0 0 0", "hint odd 0", "hint push 9999999999", "delta 0 0 0 0", "part 9 0 0")
        for line in others:
            with self.assertRaises(InvalidFont) as caught:
                read_font("font 100\nglyph 0\n" + line)
            self.assertEqual(caught.exception.place, "glyph 0")
        others = ("rule 1", "rule 0 0", "rule 0 then 0", "rule 0 back 0", "rule 0 out 0", "rule 0 calls 0 0",
                  "rule 0 extra 1")
        for line in others:
            with self.assertRaises(InvalidFont) as caught:
                read_font("font 100\nglyph 0\nlookup cursive\n" + line)
            self.assertEqual(caught.exception.place, "lookup 0")


if __name__ == "__main__":
    unittest.main()
