"""The texts of fonts: reading and writing them."""

from fleuron.errors import TextError, TooLarge
from fleuron.fonts import Font, Glyph, Lookup, Rule
from fleuron.grammar import line_reason, pieces_of, sections_of

LONGEST_TEXT = 60000
GLYPH_LINES = ("contour", "part", "anchor", "delta", "hint")
LOOKUP_LINES = ("rule",)


def read_font(text):
    """Return the font of a text."""
    if len(text) > LONGEST_TEXT:
        raise TooLarge("text")
    rows = rows_of(text)
    return Font(
        int(rows[0][1]),
        [glyph_of_block(block) for block in blocks(rows, "glyph", GLYPH_LINES)],
        chars=tuples_of_ints(rows, "char"),
        lookups=[lookup_of_block(block) for block in blocks(rows, "lookup", LOOKUP_LINES)],
        features=[(words[0], ints(words[1:])) for words in words_behind(rows, "feature")],
        axes=tuples_of_ints(rows, "axis"),
        regions=[groups(ints(words), 3) for words in words_behind(rows, "region")],
        functions=[instructions(words) for words in words_behind(rows, "function")],
        presets=[preset for words in words_behind(rows, "presets") for preset in ints(words)],
    )


def rows_of(text):
    """Return the words of each line, all of which are correct."""
    lines = text.split("\n")
    if lines[-1] == "":
        lines = lines[:-1]
    if not lines:
        raise TextError(1, "place")
    rows = []
    previous = None
    for number, line in enumerate(lines, start=1):
        words = line.split(" ")
        reason = line_reason(words, previous)
        if reason is not None:
            raise TextError(number, reason)
        rows.append(words)
        previous = words[0]
    return rows


def blocks(rows, first, inner):
    """Return the rows that begin with a word, each in a list with the rows inside of it behind it."""
    found = []
    for row in rows:
        if row[0] == first:
            found.append([row])
        elif row[0] in inner:
            found[-1].append(row)
    return found


def words_behind(rows, first):
    """Return the other words of each row that begins with the word first."""
    return [row[1:] for row in rows if row[0] == first]


def ints(words):
    """Return the integers of the words."""
    return [int(word) for word in words]


def groups(row, size):
    """Return the items of a list in tuples of a size."""
    return [tuple(row[k:k + size]) for k in range(0, len(row), size)]


def tuples_of_ints(rows, first):
    """Return the integers of each row that begins with the word first, as tuples."""
    return [tuple(ints(words)) for words in words_behind(rows, first)]


def instructions(words):
    """Return the list of the instructions of the words."""
    return [(word, int(number)) for word, number in groups(words, 2)]


def glyph_of_block(block):
    """Return the glyph of the rows of a block."""
    return Glyph(
        int(block[0][1]),
        [contour_of(words) for words in words_behind(block, "contour")],
        parts=tuples_of_ints(block, "part"),
        anchors=[tuple(words[:1] + ints(words[1:])) for words in words_behind(block, "anchor")],
        mark=len(block[0]) > 2,
        deltas=tuples_of_ints(block, "delta"),
        hint=[step for words in words_behind(block, "hint") for step in instructions(words)],
    )


def contour_of(words):
    """Return the list of the points of the words."""
    return [(int(x), int(y), side == "on") for x, y, side in groups(words, 3)]


def lookup_of_block(block):
    """Return the lookup of the rows of a block."""
    rules = [rule_of(words) for words in words_behind(block, "rule")]
    return Lookup(block[0][1], rules, ignore=len(block[0]) > 2)


def rule_of(words):
    """Return the rule of the words behind the word rule."""
    sections = sections_of(words)
    return Rule(
        sets_of(sections, "inside"),
        back=sets_of(sections, "back"),
        ahead=sets_of(sections, "ahead"),
        out=ints(sections.get("out", [])),
        calls=groups(ints(sections.get("calls", [])), 2),
        extra=int(sections.get("extra", ["0"])[0]),
    )


def sets_of(sections, name):
    """Return the sets of a part of a rule; none if it is not there."""
    if name not in sections:
        return []
    return [ints(piece) for piece in pieces_of(sections[name])]


def write_font(font):
    """Return the text of a font, with a newline at the end of each line."""
    rows = [["font", font.unit]]
    if font.presets:
        rows.append(["presets"] + font.presets)
    rows.extend([["axis"] + list(axis) for axis in font.axes])
    rows.extend([["region"] + flat(region) for region in font.regions])
    rows.extend([["function"] + flat(function) for function in font.functions])
    for glyph in font.glyphs:
        rows.extend(glyph_rows(glyph))
    for lookup in font.lookups:
        rows.extend(lookup_rows(lookup))
    rows.extend([["feature", name] + numbers for name, numbers in font.features])
    rows.extend([["char"] + list(pair) for pair in font.chars])
    return "".join([" ".join([str(word) for word in row]) + "\n" for row in rows])


def flat(rows):
    """Return the items of all rows in one list."""
    return [item for row in rows for item in row]


def glyph_rows(glyph):
    """Return the words of the lines of a glyph; numbers may be among them."""
    rows = [["glyph", glyph.advance] + (["mark"] if glyph.mark else [])]
    rows.extend([["contour"] + contour_words(contour) for contour in glyph.outline])
    rows.extend([["part"] + list(part) for part in glyph.parts])
    rows.extend([["anchor"] + list(anchor) for anchor in glyph.anchors])
    rows.extend([["delta"] + list(delta) for delta in glyph.deltas])
    if glyph.hint:
        rows.append(["hint"] + flat(glyph.hint))
    return rows


def contour_words(contour):
    """Return the words of the points of a contour."""
    return flat([(x, y, "on" if on else "off") for x, y, on in contour])


def lookup_rows(lookup):
    """Return the words of the lines of a lookup; numbers may be among them."""
    head = ["lookup", lookup.kind] + (["ignore"] if lookup.ignore else [])
    return [head] + [["rule"] + rule_words(rule) for rule in lookup.rules]


def rule_words(rule):
    """Return the words of a rule behind its first one."""
    words = sets_words(rule.inside)
    for name, sets in (("back", rule.back), ("ahead", rule.ahead)):
        if sets:
            words.extend([name] + sets_words(sets))
    if rule.out:
        words.extend(["out"] + rule.out)
    if rule.calls:
        words.extend(["calls"] + flat(rule.calls))
    if rule.extra != 0:
        words.extend(["extra", rule.extra])
    return words


def sets_words(sets):
    """Return the words of sets, with the word then between them."""
    words = list(sets[0])
    for chosen in sets[1:]:
        words.extend(["then"] + chosen)
    return words
