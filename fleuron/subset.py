"""Fonts cut down to what a request can show."""

from fleuron.closure import ONE_FOR_ONE, kept_glyphs
from fleuron.fonts import Font, Glyph, Lookup, Rule
from fleuron.shaping import plan


def subset_font(font, codes, features):
    """Return the subset of a font for a request, and the list of the old numbers of its glyphs."""
    kept = kept_glyphs(font, codes, features)
    asked = lookups_asked(font, features)
    glyphs = new_numbers(kept)
    lookups = new_numbers(asked)
    subset = Font(
        font.unit,
        [with_new_parts(font.glyphs[number], glyphs) for number in kept],
        chars=[(code, glyphs[glyph]) for code, glyph in font.chars if code in codes],
        lookups=[cut_lookup(font.lookups[number], glyphs, lookups) for number in asked],
        features=[(name, [lookups[k] for k in numbers]) for name, numbers in font.features if name in features],
        axes=font.axes,
        regions=font.regions,
        functions=font.functions,
        presets=font.presets,
    )
    return (subset, kept)


def lookups_asked(font, features):
    """Return the ascending list of the lookups of a request: those of the plan, and those that these call."""
    found = {}
    for lookup, _ in plan(font, features):
        found[lookup] = True
        for rule in font.lookups[lookup].rules:
            for _, called in rule.calls:
                found[called] = True
    return sorted(found)


def new_numbers(kept):
    """Return a dict from old numbers to new ones."""
    return {old: new for new, old in enumerate(kept)}


def with_new_parts(glyph, glyphs):
    """Return the glyph with the new numbers of its parts."""
    return Glyph(
        glyph.advance,
        glyph.outline,
        parts=[(glyphs[part], x, y) for part, x, y in glyph.parts],
        anchors=glyph.anchors,
        mark=glyph.mark,
        deltas=glyph.deltas,
        hint=glyph.hint,
    )


def cut_lookup(lookup, glyphs, lookups):
    """Return the lookup with the new numbers, and without what cannot come."""
    rules = [cut_rule(lookup.kind, rule, glyphs, lookups) for rule in lookup.rules]
    return Lookup(lookup.kind, [rule for rule in rules if rule is not None], ignore=lookup.ignore)


def cut_rule(kind, rule, glyphs, lookups):
    """Return the rule with the new numbers, and without what cannot come; None if it does not stay."""
    inside = [cut_row(chosen, glyphs) for chosen in rule.inside]
    back = [cut_row(chosen, glyphs) for chosen in rule.back]
    ahead = [cut_row(chosen, glyphs) for chosen in rule.ahead]
    out = cut_row(rule.out, glyphs)
    if kind in ONE_FOR_ONE:
        pairs = [pair for pair in zip(rule.inside[0], rule.out) if pair[0] in glyphs and pair[1] in glyphs]
        inside = [[glyphs[glyph] for glyph, _ in pairs]]
        out = [glyphs[glyph] for _, glyph in pairs]
    elif len(out) < len(rule.out):
        return None
    if not all([len(chosen) > 0 for chosen in inside + back + ahead]):
        return None
    calls = [(index, lookups[called]) for index, called in rule.calls]
    return Rule(inside, back=back, ahead=ahead, out=out, calls=calls, extra=rule.extra)


def cut_row(row, glyphs):
    """Return the new numbers of the glyphs of a list that are kept."""
    return [glyphs[glyph] for glyph in row if glyph in glyphs]
