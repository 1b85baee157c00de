"""Shaping: from the codes of a text to a run of items."""

from fleuron.attach import apply_attach
from fleuron.fonts import glyph_of
from fleuron.rules import REPLACING, apply_rules
from fleuron.scripts import arranged, forms
from fleuron.substitute import Engine
from fleuron.vary import at_place

ALL_FORMS = (0, 1, 2, 3, 4)
# The features that are for one form alone.
FORMS_OF_FEATURES = {"solo": (1,), "head": (2,), "midd": (3,), "tail": (4,)}


def plan(font, features):
    """Return the plan for the names of features, a list of pairs of a lookup and its forms."""
    steps = []
    for lookup in range(len(font.lookups)):
        names = [name for name, numbers in font.features if name in features and lookup in numbers]
        if names:
            steps.append((lookup, forms_of_features(names)))
    return steps


def forms_of_features(names):
    """Return the ascending list of the forms for which one of the features is."""
    return [form for form in ALL_FORMS if any([form in FORMS_OF_FEATURES.get(name, ALL_FORMS) for name in names])]


def start(font, codes, *, joins=(), orders=()):
    """Return the run with which shaping begins, with the advances of the font."""
    return first_items(font, characters(codes, joins, orders))


def characters(codes, joins, orders):
    """Return the arranged text, a list of tuples of a code, the number of its cluster and its form."""
    pairs = arranged(codes, orders)
    found = forms([code for code, _ in pairs], joins)
    return [(code, cluster, form) for (code, cluster), form in zip(pairs, found)]


def first_items(font, text):
    """Return the items of the characters of an arranged text."""
    items = []
    for code, cluster, form in text:
        # Glyph 0 stands for the codes that the font does not have.
        glyph = glyph_of(font, code) or 0
        items.append((glyph, cluster, form, font.glyphs[glyph].advance, 0, 0))
    return items


def shape(font, codes, features, place=None, *, joins=(), orders=()):
    """Return the run of a text, by automata."""
    text = characters(codes, joins, orders)
    drawn = font_at(font, place)
    engine = Engine(drawn)
    return shaped(drawn, text, features, lambda lookup, run, chosen: engine.apply(lookup, run, chosen))


def shape_by_rules(font, codes, features, place=None, *, joins=(), orders=()):
    """Return the run of a text, by the rules."""
    text = characters(codes, joins, orders)
    drawn = font_at(font, place)
    return shaped(drawn, text, features, lambda lookup, run, chosen: apply_rules(drawn, lookup, run, chosen))


def font_at(font, place):
    """Return the instance of the font at a place, or the font itself if the place is None."""
    if place is None:
        return font
    return at_place(font, place)


def shaped(font, text, features, replaced):
    """Return the run of an arranged text, if replaced(lookup, run, forms) applies a lookup that replaces."""
    run = first_items(font, text)
    for lookup, chosen in plan(font, features):
        if font.lookups[lookup].kind in REPLACING:
            run = replaced(lookup, run, chosen)
        else:
            run = apply_attach(font, lookup, run, chosen)
    return run
