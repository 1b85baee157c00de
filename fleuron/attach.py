"""Lookups that put items into their places: of the kinds pair, cursive and marks."""

from fleuron.rules import match, sees


def pens(run):
    """Return the list of the pens of the items."""
    places = []
    pen = 0
    for item in run:
        places.append(pen)
        pen += item[3]
    return places


def apply_attach(font, lookup, run, forms=()):
    """Return the run behind a lookup of the kind pair, cursive or marks."""
    kind = font.lookups[lookup].kind
    if kind == "pair":
        return with_extras(font, lookup, run, forms)
    if kind == "cursive":
        return with_joins(font, lookup, run, forms)
    if kind == "marks":
        return with_marks(font, lookup, run, forms)
    return list(run)


def is_looked_at(font, lookup, item, forms):
    """Return True if the lookup looks at the item."""
    return sees(font, lookup, item[0]) and (len(forms) == 0 or item[2] in forms)


def with_extras(font, lookup, run, forms):
    """Return the run behind a lookup of the kind pair."""
    # Such a lookup changes no glyph, so that the rules match as they do in the given run.
    return [widened(item, extra_at(font, lookup, run, at, forms)) for at, item in enumerate(run)]


def extra_at(font, lookup, run, at, forms):
    """Return what is added to the advance of the item with the index at."""
    rule = match(font, lookup, run, at, forms)
    if rule is None:
        return 0
    return font.lookups[lookup].rules[rule].extra


def widened(item, extra):
    """Return the item with the extra added to its advance."""
    glyph, cluster, form, advance, x, y = item
    return (glyph, cluster, form, advance + extra, x, y)


def with_joins(font, lookup, run, forms):
    """Return the run behind a lookup of the kind cursive."""
    items = list(run)
    sets = [(rule.inside[0], rule.inside[0]) for rule in font.lookups[lookup].rules]
    seen = [at for at, item in enumerate(run) if sees(font, lookup, item[0])]
    for at, after in zip(seen, seen[1:]):
        if is_looked_at(font, lookup, items[at], forms):
            meeting = meeting_of(font, sets, (items[at][0], items[after][0]), ("exit", "entry"))
            if meeting is not None:
                between = sum([item[3] for item in items[at + 1:after]])
                items[at], items[after] = joined_items(items[at], items[after], meeting, between)
    return items


def joined_items(item, following, meeting, between):
    """Return two items whose anchor points come together; between are the advances between them."""
    (exit_x, exit_y), (entry_x, entry_y) = meeting
    advance = item[4] + exit_x - between - following[4] - entry_x
    y = item[5] + exit_y - entry_y
    return item[:3] + (advance,) + item[4:], following[:5] + (y,)


def with_marks(font, lookup, run, forms):
    """Return the run behind a lookup of the kind marks."""
    items = []
    sets = [(rule.inside[0], rule.inside[1]) for rule in font.lookups[lookup].rules]
    base = None
    base_pen = 0
    pen = 0
    for item in run:
        if not font.glyphs[item[0]].mark:
            base = item
            base_pen = pen
        elif base is not None and is_looked_at(font, lookup, item, forms):
            meeting = meeting_of(font, sets, (base[0], item[0]), ("base", "mark"))
            if meeting is not None:
                item = set_mark(base, item, meeting, pen - base_pen)
        items.append(item)
        pen += item[3]
    return items


def set_mark(base, item, meeting, distance):
    """Return the mark with its anchor point at that of the base, whose pen is so far before its own."""
    (base_x, base_y), (mark_x, mark_y) = meeting
    x = base[4] + base_x - distance - mark_x
    y = base[5] + base_y - mark_y
    return item[:3] + (0, x, y)


def meeting_of(font, sets, glyphs, kinds):
    """Return the places of the anchors of two glyphs that come together, or None.

    Sets has a pair of sets for each rule. Whichever rule counts, it does the same.
    """
    first, second = glyphs
    if not any([first in firsts and second in seconds for firsts, seconds in sets]):
        return None
    ahead = anchors_of(font, first, kinds[0])
    behind = anchors_of(font, second, kinds[1])
    common = [group for group in sorted(ahead) if group in behind]
    if not common:
        return None
    return (ahead[common[0]], behind[common[0]])


def anchors_of(font, glyph, kind):
    """Return a dict with the place of the first anchor of each class that the glyph has of a kind."""
    places = {}
    for own_kind, group, x, y in font.glyphs[glyph].anchors:
        if own_kind == kind:
            places.setdefault(group, (x, y))
    return places
