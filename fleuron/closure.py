"""What a request can show: the glyphs that come of its codes and features, and the reasons why."""

from fleuron.fonts import glyph_of
from fleuron.rules import REPLACING, sees
from fleuron.shaping import plan

ONE_FOR_ONE = ("single", "reverse")
FIRST_RULE_ALONE = ("single", "multiple")


def kept_glyphs(font, codes, features):
    """Return the ascending list of the kept glyphs of a request."""
    return sorted(found_glyphs(font, codes, features))


def ranks(font, codes, features):
    """Return the ranks of the kept glyphs, in ascending order of the glyphs."""
    found = found_glyphs(font, codes, features)
    return [found[glyph][0] for glyph in sorted(found)]


def reasons(font, codes, features, glyph):
    """Return a row of reasons for a kept glyph, or None if it is not kept."""
    found = found_glyphs(font, codes, features)
    if glyph not in found:
        return None
    needed = {glyph: True}
    waiting = [glyph]
    while waiting:
        bases = bases_of(found[waiting.pop()][1])
        for base in bases:
            if base not in needed:
                needed[base] = True
                waiting.append(base)
    # A glyph is based on glyphs of lesser ranks alone.
    in_order = sorted(needed, key=lambda base: (found[base][0], base))
    return [(number, found[number][1]) for number in in_order]


def accepts_reasons(font, codes, features, row):
    """Return True if the row of reasons is accepted for the request."""
    first = first_glyphs(font, codes)
    lookups = lookups_that_replace(font, features)
    stated = {}
    for glyph, reason in row:
        # What has been stated is a glyph of the font.
        if glyph in stated or not all([base in stated for base in bases_of(reason)]):
            return False
        if not holds(font, first, lookups, glyph, reason):
            return False
        stated[glyph] = True
    return True


def first_glyphs(font, codes):
    """Return the ascending list of the glyphs that come of the empty list."""
    glyphs = {0: True}
    for code in codes:
        glyph = glyph_of(font, code)
        if glyph is not None:
            glyphs[glyph] = True
    return sorted(glyphs)


def lookups_that_replace(font, features):
    """Return the lookups of the plan that replace."""
    return [lookup for lookup, _ in plan(font, features) if font.lookups[lookup].kind in REPLACING]


def found_glyphs(font, codes, features):
    """Return a dict from each kept glyph to a pair of its rank and a reason that has this depth."""
    lookups = lookups_that_replace(font, features)
    found = {glyph: (0, ("start",)) for glyph in first_glyphs(font, codes)}
    rank = 0
    many = 0
    while many < len(found):
        many = len(found)
        rank += 1
        pairs = coming(font, lookups, sorted(found))
        for glyph, reason in pairs:
            if glyph not in found:
                found[glyph] = (rank, reason)
    return found


def coming(font, lookups, known):
    """Return pairs (glyph, reason) of all glyphs that come of lists of the known ones."""
    pairs = []
    for glyph in known:
        pairs.extend([(part[0], ("part", glyph)) for part in font.glyphs[glyph].parts])
    for lookup in lookups:
        for rule in range(len(font.lookups[lookup].rules)):
            pairs.extend(coming_by_rule(font, lookup, rule, known))
    return pairs


def coming_by_rule(font, lookup, rule, known):
    """Return pairs (glyph, reason) of all glyphs that come of lists of the known ones by a rule."""
    choices = [
        [glyph for glyph in chosen if glyph in known and sees(font, lookup, glyph)]
        for chosen in sets_of(font.lookups[lookup].rules[rule])
    ]
    if not all([len(choice) > 0 for choice in choices]):
        return []
    pairs = []
    for index, call in turns_of(font, lookup, rule):
        for glyph in choices[index]:
            row = [choice[0] for choice in choices]
            # What comes depends on this one of the glyphs alone.
            row[index] = glyph
            for put in glyphs_put(font, lookup, rule, row, call):
                pairs.append((put, reason_by(lookup, rule, row, call)))
    return pairs


def reason_by(lookup, rule, row, call):
    """Return the reason that something comes of a list by a rule, or by a call of it."""
    if call is None:
        return ("rule", lookup, rule, list(row))
    return ("call", lookup, rule, list(row), call)


def sets_of(rule):
    """Return the sets of a rule: those inside, then those of back, then those of ahead."""
    return rule.inside + rule.back + rule.ahead


def turns_of(font, lookup, rule):
    """Return pairs: the index of the set that is replaced, and which call does that, or None without calls."""
    if font.lookups[lookup].kind != "chain":
        return [(0, None)]
    return [(index, call) for call, (index, _) in enumerate(font.lookups[lookup].rules[rule].calls)]


def glyphs_put(font, lookup, rule, row, call):
    """Return the glyphs that come of a list that fits the rule, by a call of it, or by itself if the call is None."""
    if call is None:
        return put_by_rule(font.lookups[lookup], rule, row[0])
    index, called = font.lookups[lookup].rules[rule].calls[call]
    if not sees(font, called, row[index]):
        return []
    for number, tried in enumerate(font.lookups[called].rules):
        if row[index] in tried.inside[0]:
            return put_by_rule(font.lookups[called], number, row[index])
    return []


def put_by_rule(lookup, rule, glyph):
    """Return the glyphs that come by a rule, which calls nothing, of a list that begins with the glyph."""
    used = lookup.rules[rule]
    if lookup.kind in FIRST_RULE_ALONE and any([glyph in earlier.inside[0] for earlier in lookup.rules[:rule]]):
        return []
    if lookup.kind in ONE_FOR_ONE:
        return [used.out[used.inside[0].index(glyph)]]
    return list(used.out)


def bases_of(reason):
    """Return the glyphs on which a reason is based."""
    if reason[0] == "start":
        return []
    if reason[0] == "part":
        return [reason[1]]
    return list(reason[3])


def holds(font, first, lookups, glyph, reason):
    """Return True if the reason, which is based on glyphs of the font, holds for the glyph."""
    if reason[0] == "start":
        return glyph in first
    if reason[0] == "part":
        return glyph in [part[0] for part in font.glyphs[reason[1]].parts]
    lookup, rule, row = reason[1:4]
    if lookup not in lookups or not 0 <= rule < len(font.lookups[lookup].rules):
        return False
    call = reason[4] if reason[0] == "call" else None
    if call not in [turn[1] for turn in turns_of(font, lookup, rule)] or not is_row_for(font, lookup, rule, row):
        return False
    return glyph in glyphs_put(font, lookup, rule, row, call)


def is_row_for(font, lookup, rule, row):
    """Return True if a list has a glyph that the lookup sees for each set of the rule."""
    sets = sets_of(font.lookups[lookup].rules[rule])
    if len(row) != len(sets):
        return False
    return all([glyph in chosen and sees(font, lookup, glyph) for glyph, chosen in zip(row, sets)])
