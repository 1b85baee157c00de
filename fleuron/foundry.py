"""Drawing: from the codes of a text to a run and its pixels."""

from fleuron.attach import pens
from fleuron.errors import InvalidPacking, OutOfRange, TooLarge
from fleuron.grid import fitted_slow, scaled
from fleuron.outlines import lines
from fleuron.packing import MOST_NUMBERS, pack, unpack
from fleuron.raster import fill, glyph_pixels, moved_pixels
from fleuron.shaping import font_at, shape, shape_by_rules
from fleuron.subset import subset_font

MOST_ITEMS = 200
ONE_PIXEL = 64
HALF_PIXEL = 32


def cell(font, pen, item, size):
    """Return the cell of an item, a pair."""
    across = scaled(font.unit, size, pen + item[4])
    along = scaled(font.unit, size, item[5])
    return ((across + HALF_PIXEL) // ONE_PIXEL, (along + HALF_PIXEL) // ONE_PIXEL)


def draw(font, codes, features, place=None, size=16, *, joins=(), orders=()):
    """Return the drawing, a pair of the run and the pixels, by automata and straight code."""
    run = shape(font, codes, features, place, joins=joins, orders=orders)
    return (run, drawn(font_at(font, place), run, size, lambda instance, glyph: glyph_pixels(instance, glyph, size)))


def draw_by_rules(font, codes, features, place=None, size=16, *, joins=(), orders=()):
    """Return the drawing by the rules and step by step."""
    run = shape_by_rules(font, codes, features, place, joins=joins, orders=orders)
    return (run, drawn(font_at(font, place), run, size, lambda instance, glyph: slow_pixels(instance, glyph, size)))


def draw_small(font, codes, features, place=None, size=16, *, joins=(), orders=()):
    """Return the drawing from the packed and unpacked subset, with the old numbers of the glyphs."""
    subset, numbers = subset_font(font, codes, features)
    packed = pack(subset)
    # What drawing raises comes before what packing does.
    fits = len(packed) <= MOST_NUMBERS
    try:
        run, pixels = draw(unpack(packed) if fits else subset, codes, features, place, size, joins=joins, orders=orders)
    except OutOfRange as missing:
        raise OutOfRange(numbers[missing.number])
    if not fits:
        raise InvalidPacking()
    return ([(numbers[item[0]],) + item[1:] for item in run], pixels)


def first_difference(first, second):
    """Return the least pixel that is in one of two lists only, or None."""
    different = sorted(set(first) ^ set(second))
    return different[0] if different else None


def drawn(font, run, size, pixels_of):
    """Return the pixels of a run, if pixels_of(font, glyph) tells those of a glyph."""
    if len(run) > MOST_ITEMS:
        raise TooLarge("run")
    known = {}
    black = {}
    for pen, item in zip(pens(run), run):
        if item[0] not in known:
            known[item[0]] = pixels_of(font, item[0])
        across, along = cell(font, pen, item, size)
        for pixel in moved_pixels(known[item[0]], across, along):
            black[pixel] = True
    return sorted(black)


def slow_pixels(font, number, size):
    """Return the black pixels of a glyph, fitted step by step."""
    return fill(lines(fitted_slow(font, number, size)))
