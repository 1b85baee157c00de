"""Automata that read rows of glyphs and tell which rules of a lookup are met.

A side of an automaton is a pair (rows, met): for each state the next states, one for each
glyph of the font, and for each state the rules that count as met in it.
"""

from fleuron.errors import TooLarge
from fleuron.rows import is_rising

MOST_STATES = 500


class Automaton:
    """An automaton with the sides fore and back."""

    def __init__(self, fore, back):
        self.fore = copied_side(fore)
        self.back = copied_side(back)


class States:
    """The statuses that have been found; each is the one of the state that has its index."""

    def __init__(self, first):
        self.statuses = [first]
        self.numbers = {tuple(first): 0}

    def state_of(self, status):
        """Return the state of a status, a new one if it has not been found before."""
        key = tuple(status)
        if key not in self.numbers:
            if len(self.statuses) == MOST_STATES:
                raise TooLarge("states")
            self.numbers[key] = len(self.statuses)
            self.statuses.append(status)
        return self.numbers[key]


def copied_side(side):
    """Return a side that shares no list with the given one."""
    rows, met = side
    return ([list(row) for row in rows], [list(rules) for rules in met])


def side_of(automaton, side):
    """Return the side of an automaton with the name fore or back."""
    return automaton.fore if side == "fore" else automaton.back


def patterns(font, lookup, side):
    """Return the patterns of a side, one for each rule of the lookup."""
    return [pattern_of(rule, side) for rule in font.lookups[lookup].rules]


def pattern_of(rule, side):
    """Return the sets of a rule that count on a side."""
    sets = rule.inside + rule.ahead if side == "fore" else rule.back
    return [list(chosen) for chosen in sets]


def status_after(patterns_now, row):
    """Return the status of the patterns behind a row."""
    status = [0 for _ in patterns_now]
    for glyph in row:
        status = next_status(patterns_now, status, glyph)
    return status


def next_status(patterns_now, status, glyph):
    """Return the status behind one glyph more."""
    return [next_number(pattern, number, glyph) for pattern, number in zip(patterns_now, status)]


def next_number(pattern, number, glyph):
    """Return the number of one pattern in the status behind one glyph more."""
    if number == len(pattern):
        return number
    if 0 <= number < len(pattern) and glyph in pattern[number]:
        return number + 1
    return -1


def met_rules(patterns_now, status):
    """Return the rules that are met by the rows with this status."""
    return [rule for rule, pattern in enumerate(patterns_now) if status[rule] == len(pattern)]


def fits(font, lookup, automaton):
    """Return True if the automaton fits the font and the lookup."""
    many = len(font.lookups[lookup].rules)
    return all([side_fits(font, side, many) for side in (automaton.fore, automaton.back)])


def side_fits(font, side, many_rules):
    """Return True if a side has next states and met rules as it must for the font."""
    rows, met = side
    if len(rows) != len(met) or len(rows) == 0:
        return False
    for row in rows:
        if len(row) != len(font.glyphs) or not all([0 <= state < len(rows) for state in row]):
            return False
    return all([is_rising(rules, many_rules) for rules in met])


def build(font, lookup):
    """Return the automaton with one state for each status that some row has, on each side."""
    return Automaton(built_side(font, lookup, "fore"), built_side(font, lookup, "back"))


def built_side(font, lookup, side):
    """Return one side of the automaton that is built."""
    now = patterns(font, lookup, side)
    alike = alike_glyphs(font, now)
    states = States(status_after(now, []))
    rows = []
    while len(rows) < len(states.statuses):
        status = states.statuses[len(rows)]
        row = []
        for glyph, same in enumerate(alike):
            if same < glyph:
                row.append(row[same])
            else:
                row.append(states.state_of(next_status(now, status, glyph)))
        rows.append(row)
    return (rows, [met_rules(now, status) for status in states.statuses])


def alike_glyphs(font, patterns_now):
    """Return for each glyph the least one that is in the same sets, and so leads to the same status."""
    least = {}
    alike = []
    for glyph in range(len(font.glyphs)):
        places = tuple([glyph in chosen for pattern in patterns_now for chosen in pattern])
        alike.append(least.setdefault(places, glyph))
    return alike


def read(automaton, side, row):
    """Return the state behind a row."""
    rows = side_of(automaton, side)[0]
    state = 0
    for glyph in row:
        state = rows[state][glyph]
    return state


def met_by(automaton, side, row):
    """Return the list of the rules that count as met behind a row."""
    met = side_of(automaton, side)[1]
    return list(met[read(automaton, side, row)])
