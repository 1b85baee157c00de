"""Composed glyphs: glyphs into which other glyphs are put."""

from fleuron.depths import depths_of
from fleuron.errors import TooLarge, UnknownGlyph
from fleuron.outlines import count_points, moved

MOST_POINTS = 1000


def flat_outline(font, glyph):
    """Return the outline of a glyph with those of its parts, a list of contours."""
    order = parts_first(font, glyph)
    # Counting comes first: parts of parts can be more than there is room for.
    counts = {}
    for number in order:
        counts[number] = flat_count(font.glyphs[number], counts)
    if counts[glyph] > MOST_POINTS:
        raise TooLarge("points")
    flats = {}
    for number in order:
        flats[number] = assembled(font.glyphs[number], flats)
    return flats[glyph]


def made_of(font, glyph):
    """Return the ascending list of the glyphs that a glyph is made of."""
    check_known(font, glyph)
    seen = {glyph: True}
    waiting = [glyph]
    while waiting:
        current = font.glyphs[waiting.pop()]
        for part in current.parts:
            if part[0] not in seen:
                seen[part[0]] = True
                waiting.append(part[0])
    return sorted(seen)


def depth(font, glyph):
    """Return the depth of a glyph."""
    check_known(font, glyph)
    return depths_of(font.glyphs)[glyph]


def check_known(font, glyph):
    """Raise UnknownGlyph if the font has no glyph with this number."""
    if not 0 <= glyph < len(font.glyphs):
        raise UnknownGlyph(glyph)


def parts_first(font, glyph):
    """Return the glyphs that a glyph is made of, each behind the glyphs of its parts."""
    numbers = made_of(font, glyph)
    depths = depths_of(font.glyphs)
    return sorted(numbers, key=lambda number: depths[number])


def flat_count(glyph, counts):
    """Return the number of points of the flat outline, from those of the parts."""
    return count_points(glyph.outline) + sum([counts[part[0]] for part in glyph.parts])


def assembled(glyph, flats):
    """Return the flat outline, from those of the parts."""
    outline = [list(contour) for contour in glyph.outline]
    for number, x, y in glyph.parts:
        outline.extend(moved(flats[number], x, y))
    return outline
