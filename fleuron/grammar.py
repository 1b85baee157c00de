"""The lines of the text of a font: which may stand where, and with which words."""

from fleuron.letters import is_row_of_letters

DIGITS = "0123456789"
LONGEST_INT = 10
LONGEST_NAME = 12
FIRST = ("font",)
# For each first word of a line those with which the line behind it may begin.
FOLLOWERS = {
    "font": ("presets", "axis", "region", "function", "glyph", "lookup", "feature", "char"),
    "presets": ("axis", "region", "function", "glyph", "lookup", "feature", "char"),
    "axis": ("axis", "region", "function", "glyph", "lookup", "feature", "char"),
    "region": ("region", "function", "glyph", "lookup", "feature", "char"),
    "function": ("function", "glyph", "lookup", "feature", "char"),
    "glyph": ("contour", "part", "anchor", "delta", "hint", "glyph", "lookup", "feature", "char"),
    "contour": ("contour", "part", "anchor", "delta", "hint", "glyph", "lookup", "feature", "char"),
    "part": ("part", "anchor", "delta", "hint", "glyph", "lookup", "feature", "char"),
    "anchor": ("anchor", "delta", "hint", "glyph", "lookup", "feature", "char"),
    "delta": ("delta", "hint", "glyph", "lookup", "feature", "char"),
    "hint": ("glyph", "lookup", "feature", "char"),
    "lookup": ("rule", "lookup", "feature", "char"),
    "rule": ("rule", "lookup", "feature", "char"),
    "feature": ("feature", "char"),
    "char": ("char",),
}
# For each first word the kinds of the words behind it, then those of a group of further
# words, and whether the group stands once or not at all (?), any times (*), or once or more (+).
SHAPES = {
    "font": (("int",), (), ""),
    "presets": ((), ("int",), "+"),
    "axis": (("int", "int", "int"), (), ""),
    "region": ((), ("int", "int", "int"), "*"),
    "function": ((), ("name", "int"), "*"),
    "glyph": (("int",), ("mark",), "?"),
    "contour": ((), ("int", "int", "side"), "+"),
    "part": (("int", "int", "int"), (), ""),
    "anchor": (("name", "int", "int", "int"), (), ""),
    "delta": (("int", "int", "int", "int"), (), ""),
    "hint": ((), ("name", "int"), "+"),
    "lookup": (("name",), ("ignore",), "?"),
    "feature": (("name",), ("int",), "*"),
    "char": (("int", "int"), (), ""),
}
# What a rule consists of; a word of these begins each part but the first one.
SECTIONS = ("inside", "back", "ahead", "out", "calls", "extra")
SECTIONS_OF_SETS = ("inside", "back", "ahead")


def line_reason(words, previous):
    """Return why a line is incorrect behind one with the first word previous, or None.

    For the first line previous is None.
    """
    first = words[0]
    if "" in words or first not in FOLLOWERS:
        return "word"
    if first not in (FIRST if previous is None else FOLLOWERS[previous]):
        return "place"
    if not is_told(words):
        return "words"
    if not all([is_int(word) for word in words if is_like_int(word)]):
        return "number"
    return None


def is_told(words):
    """Return True if the words behind the first one are of the kinds that the line has."""
    if words[0] == "rule":
        return is_rule(words[1:])
    head, group, times = SHAPES[words[0]]
    rest = len(words) - 1 - len(head)
    many = rest // max(1, len(group))
    if rest < 0 or rest != many * len(group) or (times == "+" and many < 1) or (times == "?" and many > 1):
        return False
    kinds = head + group * many
    return all([is_of_kind(kind, word) for kind, word in zip(kinds, words[1:])])


def is_of_kind(kind, word):
    """Return True if a word is of a kind of SHAPES."""
    if kind == "int":
        return is_like_int(word)
    if kind == "name":
        return is_row_of_letters(word, LONGEST_NAME)
    if kind == "side":
        return word in ("on", "off")
    return word == kind


def is_like_int(word):
    """Return True if the word consists of digits and minus signs alone."""
    return len(word) > 0 and all([sign == "-" or sign in DIGITS for sign in word])


def is_int(word):
    """Return True if the word is an integer as it is written."""
    digits = word[1:] if word.startswith("-") else word
    if not 1 <= len(digits) <= LONGEST_INT or not all([sign in DIGITS for sign in digits]):
        return False
    return word == "0" or digits[0] != "0"


def is_rule(words):
    """Return True if the words are as they stand behind the word rule."""
    sections = sections_of(words)
    if sections is None:
        return False
    for name, inner in sections.items():
        pieces = pieces_of(inner) if name in SECTIONS_OF_SETS else [inner]
        if not all([is_ints(piece) for piece in pieces]):
            return False
    return len(sections.get("calls", [])) % 2 == 0 and len(sections.get("extra", ["0"])) == 1


def is_ints(words):
    """Return True if there are words, all like integers."""
    return len(words) > 0 and all([is_like_int(word) for word in words])


def sections_of(words):
    """Return a dict with the words of each part of a rule, or None if the parts do not stand in order."""
    sections = {"inside": []}
    current = "inside"
    for word in words:
        if word not in SECTIONS:
            sections[current].append(word)
        elif SECTIONS.index(word) <= SECTIONS.index(current):
            return None
        else:
            current = word
            sections[current] = []
    return sections


def pieces_of(words):
    """Return the lists of words that stand between the words then."""
    pieces = [[]]
    for word in words:
        if word == "then":
            pieces.append([])
        else:
            pieces[-1].append(word)
    return pieces
