"""What comes of lists of glyphs, written after points 71 to 74 a second time, to compare with: all lists are tried."""

from itertools import product

from fleuron.rules import REPLACING, sees
from fleuron.shaping import plan


def frozen(reason):
    """Return a reason whose list is a tuple."""
    return tuple(tuple(part) if isinstance(part, list) else part for part in reason)


def by_itself(font, lookup, number, glyph):
    """Return what comes by a rule that is no chain of a list that begins with the glyph."""
    rules = font.lookups[lookup].rules
    kind = font.lookups[lookup].kind
    if kind in ("single", "multiple") and any(glyph in rule.inside[0] for rule in rules[:number]):
        return []
    if kind in ("single", "reverse"):
        return [out for one, out in zip(rules[number].inside[0], rules[number].out) if one == glyph]
    return rules[number].out


def all_reasons(font, codes, features, within):
    """Return all pairs of a glyph and a frozen reason that is based on glyphs within a list alone."""
    found = {(0, ("start",))}
    found.update((glyph, ("start",)) for code, glyph in font.chars if code in codes)
    for other in within:
        found.update((part[0], ("part", other)) for part in font.glyphs[other].parts)
    for lookup, _ in plan(font, features):
        if font.lookups[lookup].kind not in REPLACING:
            continue
        for number, rule in enumerate(font.lookups[lookup].rules):
            for row in product(*(rule.inside + rule.back + rule.ahead)):
                if not all(glyph in within and sees(font, lookup, glyph) for glyph in row):
                    continue
                if font.lookups[lookup].kind != "chain":
                    found.update((put, ("rule", lookup, number, row)) for put in by_itself(font, lookup, number, row[0]))
                    continue
                for call, (index, called) in enumerate(rule.calls):
                    if sees(font, called, row[index]):
                        for other in range(len(font.lookups[called].rules)):
                            if row[index] in font.lookups[called].rules[other].inside[0]:
                                found.update((put, ("call", lookup, number, row, call))
                                             for put in by_itself(font, called, other, row[index]))
    return found


def ranks_by_points(font, codes, features):
    """Return a dict from each kept glyph to its rank."""
    found = {glyph: 0 for glyph, _ in all_reasons(font, codes, features, [])}
    rank = 0
    while rank in found.values():
        rank += 1
        for glyph, _ in all_reasons(font, codes, features, list(found)):
            found.setdefault(glyph, rank)
    return found


def bases(reason):
    """Return the glyphs on which a reason is based."""
    if reason[0] == "start":
        return []
    return [reason[1]] if reason[0] == "part" else list(reason[3])


def accepted_by_points(font, codes, features, row):
    """Return True if the row of reasons is accepted."""
    known = all_reasons(font, codes, features, range(len(font.glyphs)))
    earlier = []
    for glyph, reason in row:
        if (glyph, frozen(reason)) not in known or glyph in earlier or not set(bases(reason)) <= set(earlier):
            return False
        earlier.append(glyph)
    return True


def depth_by_points(row):
    """Return the depth of the last glyph of a row of reasons, counted by them alone."""
    depths = {}
    for glyph, reason in row:
        depths[glyph] = max([1 + depths[base] for base in bases(reason)], default=0)
    return depths[row[-1][0]]
