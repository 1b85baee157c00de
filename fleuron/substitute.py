"""Lookups that replace the items of a run, by automata."""

from fleuron.automata import build, met_by
from fleuron.fonts import copied_font
from fleuron.rules import REPLACING, applied, match, seen_items, sees


class Engine:
    """The automata of a font, one for each lookup that replaces."""

    def __init__(self, font):
        self.font = copied_font(font)
        self.automata = [automaton_of(self.font, lookup) for lookup in range(len(self.font.lookups))]
        self.reaches = [reach_of(lookup) for lookup in self.font.lookups]

    def first_rule(self, lookup, run, at, forms=()):
        """Return the number of the rule that counts at the item with the index at, or None."""
        automaton = self.automata[lookup]
        if automaton is None:
            return match(self.font, lookup, run, at, forms)
        if not sees(self.font, lookup, run[at][0]) or (len(forms) > 0 and run[at][2] not in forms):
            return None
        onward, backward = self.reaches[lookup]
        fore = met_by(automaton, "fore", self.seen_glyphs(lookup, run, at, 1, onward))
        back = met_by(automaton, "back", self.seen_glyphs(lookup, run, at - 1, -1, backward))
        return min([rule for rule in fore if rule in back], default=None)

    def seen_glyphs(self, lookup, run, at, step, most):
        """Return the glyphs of the first seen items from an index on, in steps of 1 or -1."""
        return [run[index][0] for index in seen_items(self.font, lookup, run, at, step, most)]

    def apply(self, lookup, run, forms=()):
        """Return the run behind the lookup."""
        return applied(
            self.font, lookup, run, forms, lambda number, items, at, these: self.first_rule(number, items, at, these)
        )

    def apply_all(self, steps, run):
        """Return the run behind all lookups of the steps, pairs (lookup, forms), in order."""
        items = list(run)
        for lookup, forms in steps:
            items = self.apply(lookup, items, forms)
        return items


def automaton_of(font, lookup):
    """Return the automaton of a lookup, or None if it does not replace."""
    if font.lookups[lookup].kind not in REPLACING:
        return None
    return build(font, lookup)


def reach_of(lookup):
    """Return the lengths of the longest fore pattern and of the longest back pattern.

    Behind so many glyphs a status stays as it is, so that no more of them need be read.
    """
    fore = max([len(rule.inside) + len(rule.ahead) for rule in lookup.rules], default=0)
    back = max([len(rule.back) for rule in lookup.rules], default=0)
    return (fore, back)
