"""Fonts: what they consist of, and what they tell."""

from fleuron.errors import InvalidFont
from fleuron.faults import first_fault
from fleuron.rows import tuples_of


class Glyph:
    """A glyph. Nothing is checked here, but by the font."""

    def __init__(self, advance, outline, *, parts=(), anchors=(), mark=False, deltas=(), hint=()):
        self.advance = advance
        self.outline = [tuples_of(contour) for contour in outline]
        self.parts = tuples_of(parts)
        self.anchors = tuples_of(anchors)
        self.mark = mark
        self.deltas = tuples_of(deltas)
        self.hint = tuples_of(hint)


class Rule:
    """A rule of a lookup. Nothing is checked here, but by the font."""

    def __init__(self, inside, *, back=(), ahead=(), out=(), calls=(), extra=0):
        self.inside = [list(chosen) for chosen in inside]
        self.back = [list(chosen) for chosen in back]
        self.ahead = [list(chosen) for chosen in ahead]
        self.out = list(out)
        self.calls = tuples_of(calls)
        self.extra = extra


class Lookup:
    """A lookup. Nothing is checked here, but by the font."""

    def __init__(self, kind, rules, *, ignore=False):
        self.kind = kind
        self.rules = [copied_rule(rule) for rule in rules]
        self.ignore = ignore


class Font:
    """A font, all of which has been checked."""

    def __init__(self, unit, glyphs, *, chars=(), lookups=(), features=(), axes=(), regions=(),
                 functions=(), presets=()):
        self.unit = unit
        self.glyphs = [copied_glyph(glyph) for glyph in glyphs]
        self.chars = tuples_of(chars)
        self.lookups = [copied_lookup(lookup) for lookup in lookups]
        self.features = [(name, list(numbers)) for name, numbers in features]
        self.axes = tuples_of(axes)
        self.regions = [tuples_of(region) for region in regions]
        self.functions = [tuples_of(function) for function in functions]
        self.presets = list(presets)
        fault = first_fault(self)
        if fault is not None:
            raise InvalidFont(fault[0], fault[1])


def copied_glyph(glyph):
    """Return a glyph that shares no list with the given one."""
    return Glyph(
        glyph.advance,
        glyph.outline,
        parts=glyph.parts,
        anchors=glyph.anchors,
        mark=glyph.mark,
        deltas=glyph.deltas,
        hint=glyph.hint,
    )


def copied_rule(rule):
    """Return a rule that shares no list with the given one."""
    return Rule(
        rule.inside, back=rule.back, ahead=rule.ahead, out=rule.out, calls=rule.calls, extra=rule.extra
    )


def copied_lookup(lookup):
    """Return a lookup that shares no list and no rule with the given one."""
    return Lookup(lookup.kind, lookup.rules, ignore=lookup.ignore)


def copied_font(font):
    """Return a font that shares nothing with the given one that can change."""
    return Font(
        font.unit,
        font.glyphs,
        chars=font.chars,
        lookups=font.lookups,
        features=font.features,
        axes=font.axes,
        regions=font.regions,
        functions=font.functions,
        presets=font.presets,
    )


def glyph_of(font, code):
    """Return the glyph of a code, or None if the font has none."""
    for known, glyph in font.chars:
        if known == code:
            return glyph
    return None


def lookups_of(font, name):
    """Return the lookup numbers of a feature; none if there is no such feature."""
    for known, numbers in font.features:
        if known == name:
            return list(numbers)
    return []


def same_font(font, other):
    """Return True if all parts of both fonts are equal."""
    return contents_of_font(font) == contents_of_font(other)


def contents_of_font(font):
    """Return all that a font has, in lists and tuples."""
    return [
        font.unit,
        [contents_of_glyph(glyph) for glyph in font.glyphs],
        font.chars,
        [contents_of_lookup(lookup) for lookup in font.lookups],
        font.features,
        font.axes,
        font.regions,
        font.functions,
        font.presets,
    ]


def contents_of_glyph(glyph):
    """Return all that a glyph has, in a list."""
    return [
        glyph.advance, glyph.outline, glyph.parts, glyph.anchors, glyph.mark, glyph.deltas, glyph.hint
    ]


def contents_of_lookup(lookup):
    """Return all that a lookup has, in a list."""
    return [lookup.kind, lookup.ignore, [contents_of_rule(rule) for rule in lookup.rules]]


def contents_of_rule(rule):
    """Return all that a rule has, in a list."""
    return [rule.inside, rule.back, rule.ahead, rule.out, rule.calls, rule.extra]
