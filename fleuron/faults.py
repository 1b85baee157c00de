"""What a font is checked for when it is made."""

from fleuron.depths import depths_of
from fleuron.letters import is_row_of_letters
from fleuron.lookup_faults import lookup_reason
from fleuron.outlines import FARTHEST, count_points, is_proper
from fleuron.rows import is_rising
from fleuron.words import is_instruction

ANCHOR_KINDS = ("base", "mark", "entry", "exit")
LONGEST_FEATURE = 4


def first_fault(font):
    """Return the first place at which something does not hold, with a reason, or None."""
    return (
        placed("unit", unit_reason(font))
        or placed("glyphs", many_reason(font.glyphs, 1, 60))
        or first_glyph_fault(font)
        or placed("parts", parts_reason(font))
        or placed("chars", chars_reason(font))
        or placed("lookups", many_reason(font.lookups, 0, 20))
        or first_lookup_fault(font)
        or placed("features", features_reason(font))
        or placed("axes", axes_reason(font))
        or placed("regions", regions_reason(font))
        or placed("functions", functions_reason(font))
        or placed("presets", presets_reason(font))
    )


def placed(place, reason):
    """Return the pair of a place and a reason, or None without a reason."""
    if reason is None:
        return None
    return (place, reason)


def first_glyph_fault(font):
    """Return the place and the reason of the first incorrect glyph, or None."""
    for number, glyph in enumerate(font.glyphs):
        reason = glyph_reason(font, glyph)
        if reason is not None:
            return (f"glyph {number}", reason)
    return None


def first_lookup_fault(font):
    """Return the place and the reason of the first incorrect lookup, or None."""
    for number, lookup in enumerate(font.lookups):
        reason = lookup_reason(font, lookup)
        if reason is not None:
            return (f"lookup {number}", reason)
    return None


def is_coordinate(n):
    """Return True if the number is in the range of coordinates."""
    return -FARTHEST <= n <= FARTHEST


def many_reason(rows, least, most):
    """Return what is wrong with the length of a list, or None."""
    if not least <= len(rows) <= most:
        return f"there are {len(rows)}, and not {least} to {most}"
    return None


def unit_reason(font):
    """Return what is wrong with the unit, or None."""
    if not 16 <= font.unit <= FARTHEST:
        return "the unit is out of its range"
    return None


def glyph_reason(font, glyph):
    """Return what is wrong with a glyph by itself, or None."""
    if not 0 <= glyph.advance <= FARTHEST:
        return "the advance is out of its range"
    if not is_proper(glyph.outline):
        return "the outline is not proper"
    if not all([is_part(font, part) for part in glyph.parts]):
        return "a part is of no glyph, or moved too far"
    if not all([is_anchor(anchor) for anchor in glyph.anchors]):
        return "an anchor has another kind, or a number out of its range"
    if not all([is_delta(font, glyph, delta) for delta in glyph.deltas]):
        return "a delta is of no region or no point, or too large"
    if not all([is_instruction(step) for step in glyph.hint]):
        return "the hint has an unknown word, or a number out of its range"
    return None


def is_part(font, part):
    """Return True if a part is of a glyph of the font, and not moved too far."""
    number, x, y = part
    return 0 <= number < len(font.glyphs) and is_coordinate(x) and is_coordinate(y)


def is_anchor(anchor):
    """Return True if an anchor has a known kind, and numbers in their ranges."""
    kind, group, x, y = anchor
    return kind in ANCHOR_KINDS and 0 <= group <= 9 and is_coordinate(x) and is_coordinate(y)


def is_delta(font, glyph, delta):
    """Return True if a delta is of a region of the font and a point of the glyph, and not too large."""
    region, point, x, y = delta
    if not 0 <= region < len(font.regions) or not -1 <= point < count_points(glyph.outline):
        return False
    return is_coordinate(x) and is_coordinate(y)


def parts_reason(font):
    """Return what is wrong with the parts of all glyphs together, or None."""
    if len(depths_of(font.glyphs)) < len(font.glyphs):
        return "a glyph is a part of itself, or too deep"
    return None


def chars_reason(font):
    """Return what is wrong with the chars, or None."""
    last = -1
    for code, glyph in font.chars:
        if not last < code <= 1114111:
            return "a code is out of its range, or not above the one before it"
        if not 0 <= glyph < len(font.glyphs):
            return "a char has no glyph of the font"
        last = code
    return None


def features_reason(font):
    """Return what is wrong with the features, or None."""
    names = [name for name, _ in font.features]
    if len(set(names)) < len(names):
        return "two features have one name"
    for name, numbers in font.features:
        if not is_row_of_letters(name, LONGEST_FEATURE):
            return "the name of a feature is not 1 to 4 small letters"
        if not is_rising(numbers, len(font.lookups)):
            return "the lookups of a feature do not ascend, or one does not exist"
    return many_reason(font.features, 0, 12)


def axes_reason(font):
    """Return what is wrong with the axes, or None."""
    for least, normal, greatest in font.axes:
        if not -FARTHEST <= least <= normal <= greatest <= FARTHEST:
            return "the numbers of an axis do not ascend, or are out of their range"
    return many_reason(font.axes, 0, 3)


def regions_reason(font):
    """Return what is wrong with the regions, or None."""
    for region in font.regions:
        if len(region) != len(font.axes):
            return "a region has not one tent for each axis"
        if not all([is_tent(tent) for tent in region]):
            return "a tent does not ascend, is out of its range, or goes across 0"
    return many_reason(font.regions, 0, 8)


def is_tent(tent):
    """Return True if a tent ascends in its range, and reaches across 0 only with its peak there."""
    start, peak, end = tent
    if not -64 <= start <= peak <= end <= 64:
        return False
    return peak == 0 or start >= 0 or end <= 0


def functions_reason(font):
    """Return what is wrong with the hint functions, or None."""
    for function in font.functions:
        if not all([is_instruction(step) for step in function]):
            return "a function has an unknown word, or a number out of its range"
    return many_reason(font.functions, 0, 12)


def presets_reason(font):
    """Return what is wrong with the presets, or None."""
    if not all([-32768 <= preset <= 32767 for preset in font.presets]):
        return "a preset is out of its range"
    return many_reason(font.presets, 0, 32)
