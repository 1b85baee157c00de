"""Fonts and glyphs at the places of their axes."""

from fleuron.compose import check_known
from fleuron.errors import InvalidPlace, OutOfRange
from fleuron.fonts import Font, Glyph
from fleuron.outlines import FARTHEST
from fleuron.ratios import add, compare, divide, multiply, nearest, ratio, subtract

# The point number of the deltas of an advance.
ADVANCE = -1
WHOLE = 64


def shares(font, place):
    """Return the list of the shares of the axes at a place."""
    if len(place) != len(font.axes):
        raise InvalidPlace()
    if not all([least <= at <= greatest for at, (least, _, greatest) in zip(place, font.axes)]):
        raise InvalidPlace()
    return [share_of(axis, at) for axis, at in zip(font.axes, place)]


def share_of(axis, at):
    """Return the share of an axis at one of its numbers."""
    least, normal, greatest = axis
    if at > normal:
        return ratio(at - normal, greatest - normal)
    if at < normal:
        return ratio(at - normal, normal - least)
    return ratio(0)


def factor(region, parts):
    """Return the factor of a region at the shares, one for each of its tents."""
    product = ratio(1)
    for tent, share in zip(region, parts):
        product = multiply(product, factor_of_tent(tent, share))
    return product


def factor_of_tent(tent, share):
    """Return the factor of a tent at a share."""
    start, peak, end = [ratio(n) for n in tent]
    at = multiply(share, ratio(WHOLE))
    if tent[1] == 0 or at == peak:
        return ratio(1)
    if compare(at, start) <= 0 or compare(at, end) >= 0:
        return ratio(0)
    if compare(at, peak) < 0:
        return divide(subtract(at, start), subtract(peak, start))
    return divide(subtract(end, at), subtract(end, peak))


def glyph_at(font, number, place):
    """Return the glyph with the number at a place."""
    check_known(font, number)
    return changed_glyph(font, number, factors_of(font, place))


def factors_of(font, place):
    """Return the list of the factors of the regions at a place."""
    parts = shares(font, place)
    return [factor(region, parts) for region in font.regions]


def changed_glyph(font, number, factors):
    """Return the glyph with its deltas, by the factors of their regions, put into effect."""
    glyph = font.glyphs[number]
    changes = changes_of(glyph.deltas, factors)
    advance = glyph.advance + changes.get(ADVANCE, (0, 0))[0]
    outline = changed_outline(glyph.outline, changes)
    if not 0 <= advance <= FARTHEST or not is_near(outline):
        raise OutOfRange(number)
    return Glyph(
        advance, outline, parts=glyph.parts, anchors=glyph.anchors, mark=glyph.mark, hint=glyph.hint
    )


def changes_of(deltas, factors):
    """Return a dict with the pair of what is added to x and y of each point that has deltas."""
    sums = {}
    for region, point, x, y in deltas:
        sum_x, sum_y = sums.get(point, (ratio(0), ratio(0)))
        sum_x = add(sum_x, multiply(ratio(x), factors[region]))
        sum_y = add(sum_y, multiply(ratio(y), factors[region]))
        sums[point] = (sum_x, sum_y)
    return {point: (nearest(sum_x), nearest(sum_y)) for point, (sum_x, sum_y) in sums.items()}


def changed_outline(outline, changes):
    """Return the outline with the changes, by the numbers of its points, added."""
    found = []
    number = 0
    for contour in outline:
        changed = []
        for x, y, on in contour:
            more_x, more_y = changes.get(number, (0, 0))
            changed.append((x + more_x, y + more_y, on))
            number += 1
        found.append(changed)
    return found


def is_near(outline):
    """Return True if all points are in the range of coordinates."""
    return all([abs(x) <= FARTHEST and abs(y) <= FARTHEST for contour in outline for x, y, _ in contour])


def at_place(font, place):
    """Return the instance of a font at a place."""
    factors = factors_of(font, place)
    return Font(
        font.unit,
        [changed_glyph(font, number, factors) for number in range(len(font.glyphs))],
        chars=font.chars,
        lookups=font.lookups,
        features=font.features,
        functions=font.functions,
        presets=font.presets,
    )
