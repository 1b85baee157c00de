"""How deep glyphs are composed of others."""

DEEPEST = 4


def depths_of(glyphs):
    """Return a dict with the depth of each glyph of the list that has one of at most DEEPEST.

    A glyph that is a part of itself, directly or through others, never gets a depth.
    """
    depths = {}
    for level in range(DEEPEST + 1):
        found = [k for k in range(len(glyphs)) if k not in depths and has_parts_in(glyphs[k], depths)]
        for k in found:
            depths[k] = level
    return depths


def has_parts_in(glyph, depths):
    """Return True if all glyphs of the parts have a depth already."""
    return all([part[0] in depths for part in glyph.parts])
