"""Packed fonts: short lists of numbers from 0 to 255."""

from fleuron.coder import Coder
from fleuron.errors import InvalidPacking
from fleuron.faults import ANCHOR_KINDS
from fleuron.letters import LETTERS
from fleuron.lookup_faults import INSIDE
from fleuron.unpacking import BASE, font_of

MOST_NUMBERS = 40000


def numbers_of(font):
    """Return the numbers of a font."""
    numbers = [font.unit]
    numbers.extend(listed([numbers_of_glyph(glyph) for glyph in font.glyphs]))
    numbers.extend(listed(font.chars))
    numbers.extend(listed([numbers_of_lookup(lookup) for lookup in font.lookups]))
    numbers.extend(listed([numbers_of_word(name) + listed_numbers(chosen) for name, chosen in font.features]))
    numbers.extend(listed(font.axes))
    numbers.extend(listed([listed(region) for region in font.regions]))
    numbers.extend(listed([numbers_of_code(function) for function in font.functions]))
    numbers.extend(listed_numbers(font.presets))
    return numbers


def digits_of(number):
    """Return the digits of an integer, the lowest first."""
    m = 2 * number if number >= 0 else -2 * number - 1
    digits = []
    while m >= BASE:
        digits.append(m % BASE + BASE)
        m //= BASE
    return digits + [m]


def pack(font):
    """Return the packed list of a font."""
    coder = Coder()
    for number in numbers_of(font):
        coder.write(digits_of(number))
    return coder.ended()


def unpack(numbers):
    """Return the font whose packed list is the given one."""
    if len(numbers) > MOST_NUMBERS:
        raise InvalidPacking()
    font = font_of(numbers)
    # Many lists can be read as a font, but only one is its packed list.
    if pack(font) != list(numbers):
        raise InvalidPacking()
    return font


def listed(rows):
    """Return the numbers of a list whose items have the numbers of the rows."""
    numbers = [len(rows)]
    for row in rows:
        numbers.extend(row)
    return numbers


def listed_numbers(row):
    """Return the numbers of a list of integers."""
    return [len(row)] + list(row)


def numbers_of_glyph(glyph):
    """Return the numbers of a glyph."""
    contours = [listed([(x, y, int(on)) for x, y, on in contour]) for contour in glyph.outline]
    anchors = [(ANCHOR_KINDS.index(kind), group, x, y) for kind, group, x, y in glyph.anchors]
    numbers = [glyph.advance]
    numbers.extend(listed(contours))
    numbers.extend(listed(glyph.parts))
    numbers.extend(listed(anchors))
    numbers.append(int(glyph.mark))
    numbers.extend(listed(glyph.deltas))
    numbers.extend(numbers_of_code(glyph.hint))
    return numbers


def numbers_of_lookup(lookup):
    """Return the numbers of a lookup."""
    rules = [numbers_of_rule(rule) for rule in lookup.rules]
    return [list(INSIDE).index(lookup.kind), int(lookup.ignore)] + listed(rules)


def numbers_of_rule(rule):
    """Return the numbers of a rule."""
    numbers = []
    for sets in (rule.inside, rule.back, rule.ahead):
        numbers.extend(listed([listed_numbers(chosen) for chosen in sets]))
    return numbers + listed_numbers(rule.out) + listed(rule.calls) + [rule.extra]


def numbers_of_code(code):
    """Return the numbers of a list of instructions."""
    return listed([numbers_of_word(word) + [number] for word, number in code])


def numbers_of_word(word):
    """Return the numbers of a string of small letters."""
    return listed_numbers([LETTERS.index(letter) for letter in word])
