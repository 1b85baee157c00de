"""Fonts read from packed lists."""

from fleuron.coder import Decoder
from fleuron.errors import InvalidFont, InvalidPacking
from fleuron.faults import ANCHOR_KINDS
from fleuron.fonts import Font, Glyph, Lookup, Rule
from fleuron.letters import LETTERS
from fleuron.lookup_faults import INSIDE

BASE = 64
# No number of a font has more of them, as all are from -2147483648 to 2147483647.
MOST_DIGITS = 6


class Reader:
    """Reads what a font consists of, in the order of its numbers. More may be read than what packing writes."""

    def __init__(self, numbers):
        self.decoder = Decoder(numbers)

    def read_number(self):
        """Return the next number."""
        digits = [self.decoder.read_first()]
        while digits[-1] >= BASE:
            if len(digits) == MOST_DIGITS:
                raise InvalidPacking()
            digits.append(self.decoder.read_later())
        return number_of(digits)

    def read_flag(self):
        """Return the next number as True or False."""
        return self.read_number() == 1

    def read_one_of(self, names):
        """Return the name whose place among the names is the next number."""
        place = self.read_number()
        if not 0 <= place < len(names):
            raise InvalidPacking()
        return names[place]

    def read_numbers(self):
        """Return the next list of numbers."""
        return [self.read_number() for _ in range(self.read_number())]

    def read_rows(self):
        """Return the next list of lists of numbers."""
        return [self.read_numbers() for _ in range(self.read_number())]

    def read_tuple(self, many):
        """Return the next numbers, as many as are stated, in a tuple."""
        return tuple([self.read_number() for _ in range(many)])

    def read_tuples(self, many):
        """Return the next list of tuples of so many numbers."""
        return [self.read_tuple(many) for _ in range(self.read_number())]

    def read_word(self):
        """Return the next string."""
        return "".join([self.read_one_of(LETTERS) for _ in range(self.read_number())])

    def read_code(self):
        """Return the next list of instructions."""
        return [(self.read_word(), self.read_number()) for _ in range(self.read_number())]

    def read_contour(self):
        """Return the next contour."""
        return [self.read_tuple(2) + (self.read_flag(),) for _ in range(self.read_number())]

    def read_anchors(self):
        """Return the next list of anchors."""
        return [(self.read_one_of(ANCHOR_KINDS),) + self.read_tuple(3) for _ in range(self.read_number())]

    def read_glyph(self):
        """Return the next glyph."""
        advance = self.read_number()
        outline = [self.read_contour() for _ in range(self.read_number())]
        parts = self.read_tuples(3)
        anchors = self.read_anchors()
        mark = self.read_flag()
        deltas = self.read_tuples(4)
        return Glyph(advance, outline, parts=parts, anchors=anchors, mark=mark, deltas=deltas, hint=self.read_code())

    def read_rule(self):
        """Return the next rule."""
        inside = self.read_rows()
        back = self.read_rows()
        ahead = self.read_rows()
        out = self.read_numbers()
        calls = self.read_tuples(2)
        return Rule(inside, back=back, ahead=ahead, out=out, calls=calls, extra=self.read_number())

    def read_lookup(self):
        """Return the next lookup."""
        kind = self.read_one_of(list(INSIDE))
        ignore = self.read_flag()
        return Lookup(kind, [self.read_rule() for _ in range(self.read_number())], ignore=ignore)

    def read_font(self):
        """Return the font; raise InvalidFont if it is none."""
        unit = self.read_number()
        glyphs = [self.read_glyph() for _ in range(self.read_number())]
        chars = self.read_tuples(2)
        lookups = [self.read_lookup() for _ in range(self.read_number())]
        features = [(self.read_word(), self.read_numbers()) for _ in range(self.read_number())]
        axes = self.read_tuples(3)
        regions = [self.read_tuples(3) for _ in range(self.read_number())]
        functions = [self.read_code() for _ in range(self.read_number())]
        presets = self.read_numbers()
        return Font(unit, glyphs, chars=chars, lookups=lookups, features=features, axes=axes, regions=regions,
                    functions=functions, presets=presets)


def number_of(digits):
    """Return the integer with the digits."""
    m = 0
    for digit in digits[::-1]:
        m = m * BASE + digit % BASE
    return m // 2 if m % 2 == 0 else -(m // 2) - 1


def font_of(numbers):
    """Return the font that a list is read as; raise InvalidPacking if there is none."""
    try:
        return Reader(numbers).read_font()
    except InvalidFont:
        raise InvalidPacking()
