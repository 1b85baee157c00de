"""What the lookups of a font are checked for."""

from fleuron.outlines import FARTHEST
from fleuron.rows import is_rising

MOST_RULES = 12
MOST_AROUND = 3
MOST_OUT = 8
# For each kind the least and the greatest number of sets inside of its rules.
INSIDE = {
    "single": (1, 1),
    "multiple": (1, 1),
    "ligature": (2, 4),
    "chain": (1, 4),
    "reverse": (1, 1),
    "pair": (2, 2),
    "cursive": (1, 1),
    "marks": (2, 2),
}
WITH_CONTEXT = ("chain", "reverse")
WITH_OUT = ("single", "multiple", "ligature", "reverse")


def lookup_reason(font, lookup):
    """Return what is wrong with a lookup, or None."""
    if lookup.kind not in INSIDE:
        return "the kind is unknown"
    if len(lookup.rules) > MOST_RULES:
        return "there are too many rules"
    for rule in lookup.rules:
        reason = sets_reason(font, lookup.kind, rule) or out_reason(font, lookup.kind, rule)
        reason = reason or calls_reason(font, lookup.kind, rule) or extra_reason(lookup.kind, rule)
        if reason is not None:
            return reason
    return None


def sets_reason(font, kind, rule):
    """Return what is wrong with the sets of a rule, or None."""
    least, most = INSIDE[kind]
    if not least <= len(rule.inside) <= most:
        return "the rule has not as many sets inside as its kind"
    if len(rule.back) > MOST_AROUND or len(rule.ahead) > MOST_AROUND:
        return "the rule has too many sets back or ahead"
    if kind not in WITH_CONTEXT and (rule.back or rule.ahead):
        return "a rule of this kind has no sets back and ahead"
    if not all([is_set(font, chosen) for chosen in rule.inside + rule.back + rule.ahead]):
        return "a set is empty, does not ascend, or has an unknown glyph"
    return None


def is_set(font, chosen):
    """Return True if the list is an ascending one of glyphs of the font, without duplicates."""
    return len(chosen) > 0 and is_rising(chosen, len(font.glyphs))


def out_reason(font, kind, rule):
    """Return what is wrong with the glyphs of out, or None."""
    many = len(rule.out)
    if many > MOST_OUT:
        return "the rule has too many glyphs in out"
    if not all([0 <= glyph < len(font.glyphs) for glyph in rule.out]):
        return "out has an unknown glyph"
    if kind not in WITH_OUT and many > 0:
        return "a rule of this kind has nothing in out"
    if kind in ("single", "reverse") and many != len(rule.inside[0]):
        return "out has not as many glyphs as the set"
    if kind == "ligature" and many != 1:
        return "a ligature is one glyph"
    return None


def calls_reason(font, kind, rule):
    """Return what is wrong with the calls of a rule, or None."""
    if kind != "chain" and rule.calls:
        return "a rule of this kind has no calls"
    last = -1
    for index, lookup in rule.calls:
        if not last < index < len(rule.inside):
            return "the indexes of the calls do not ascend, or are of no set inside"
        if not 0 <= lookup < len(font.lookups) or font.lookups[lookup].kind not in ("single", "multiple"):
            return "a call is of no lookup of the kind single or multiple"
        last = index
    return None


def extra_reason(kind, rule):
    """Return what is wrong with the extra of a rule, or None."""
    if kind != "pair" and rule.extra != 0:
        return "a rule of this kind has no extra"
    if not -FARTHEST <= rule.extra <= FARTHEST:
        return "the extra is out of its range"
    return None
