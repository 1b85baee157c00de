"""Papers: lists of pairs (state, status) that show that a side of an automaton is right."""

from fleuron.automata import fits, met_rules, next_status, patterns, side_of, status_after
from fleuron.errors import TooLarge

MOST_PAIRS = 2000


def accepts_paper(font, lookup, automaton, side, paper):
    """Return True if the paper is accepted for the side of the automaton."""
    if not fits(font, lookup, automaton):
        return False
    now = patterns(font, lookup, side)
    rows, met = side_of(automaton, side)
    if not all([0 <= state < len(rows) and len(status) == len(now) for state, status in paper]):
        return False
    known = {(state, tuple(status)): True for state, status in paper}
    if (0, tuple(status_after(now, []))) not in known:
        return False
    for state, status in paper:
        if met[state] != met_rules(now, status) or not are_followers_known(now, rows[state], status, known):
            return False
    return True


def are_followers_known(patterns_now, row, status, known):
    """Return True if for each glyph the pair behind it is known."""
    for glyph, state in enumerate(row):
        if (state, tuple(next_status(patterns_now, status, glyph))) not in known:
            return False
    return True


def make_paper(font, lookup, automaton, side):
    """Return ("paper", pairs), or ("differ", row) with the least of the shortest rows on which they part."""
    now = patterns(font, lookup, side)
    rows, met = side_of(automaton, side)
    pairs = [(0, status_after(now, []))]
    if met[0] != met_rules(now, pairs[0][1]):
        return ("differ", [])
    known = {(0, tuple(pairs[0][1])): True}
    # For each pair from which one, and by which glyph, it was found.
    ways = [None]
    at = 0
    while at < len(pairs):
        state, status = pairs[at]
        for glyph, following in enumerate(rows[state]):
            longer = next_status(now, status, glyph)
            key = (following, tuple(longer))
            if key in known:
                continue
            if len(pairs) == MOST_PAIRS:
                raise TooLarge("pairs")
            known[key] = True
            pairs.append((following, longer))
            ways.append((at, glyph))
            # Pairs are found in the order of their least rows, shorter rows first.
            if met[following] != met_rules(now, longer):
                return ("differ", row_to(ways))
        at += 1
    return ("paper", pairs)


def row_to(ways):
    """Return the row of glyphs by which the last pair was found."""
    row = []
    way = ways[-1]
    while way is not None:
        at, glyph = way
        row.append(glyph)
        way = ways[at]
    return row[::-1]
