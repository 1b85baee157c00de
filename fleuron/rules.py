"""Lookups that replace the items of a run, by their written rules.

An item is a tuple (glyph, cluster, form, advance, x, y), a run a list of items.
"""

from fleuron.errors import TooLarge

MOST_ITEMS = 1000
REPLACING = ("single", "multiple", "ligature", "chain", "reverse")


def sees(font, lookup, glyph):
    """Return True if the lookup sees items of the glyph."""
    return not (font.lookups[lookup].ignore and font.glyphs[glyph].mark)


def match(font, lookup, run, at, forms=()):
    """Return the number of the rule that counts at the item with the index at, or None."""
    if len(forms) > 0 and run[at][2] not in forms:
        return None
    for rule in range(len(font.lookups[lookup].rules)):
        if matched_items(font, lookup, run, at, rule) is not None:
            return rule
    return None


def matched_items(font, lookup, run, at, rule):
    """Return the indexes of the items that match the sets inside of the rule at an item, or None."""
    if not sees(font, lookup, run[at][0]):
        return None
    tried = font.lookups[lookup].rules[rule]
    onward = seen_items(font, lookup, run, at, 1, len(tried.inside) + len(tried.ahead))
    if not are_in_sets(run, onward, tried.inside + tried.ahead):
        return None
    backward = seen_items(font, lookup, run, at - 1, -1, len(tried.back))
    if not are_in_sets(run, backward, tried.back):
        return None
    return onward[:len(tried.inside)]


def seen_items(font, lookup, run, at, step, most):
    """Return the indexes of the first seen items from an index on, in steps of 1 or -1."""
    found = []
    while len(found) < most and 0 <= at < len(run):
        if sees(font, lookup, run[at][0]):
            found.append(at)
        at += step
    return found


def are_in_sets(run, indexes, sets):
    """Return True if there is an item for each set, with its glyph in the set."""
    if len(indexes) < len(sets):
        return False
    return all([run[index][0] in chosen for index, chosen in zip(indexes, sets)])


def apply_rules(font, lookup, run, forms=()):
    """Return the run behind the lookup."""
    return applied(font, lookup, run, forms, lambda number, items, at, these: match(font, number, items, at, these))


def applied(font, lookup, run, forms, rule_at):
    """Return the run behind the lookup, if rule_at(lookup, run, at, forms) tells the rule that counts."""
    kind = font.lookups[lookup].kind
    if kind not in REPLACING:
        return list(run)
    if kind == "reverse":
        walked = walked_back(font, lookup, run, forms, rule_at)
    else:
        walked = walked_on(font, lookup, run, forms, rule_at)
    if len(walked) > MOST_ITEMS:
        raise TooLarge("run")
    return walked


def walked_on(font, lookup, run, forms, rule_at):
    """Return the run behind a walk from the left to the right."""
    items = list(run)
    at = 0
    while at < len(items):
        rule = rule_at(lookup, items, at, forms)
        if rule is None:
            at += 1
        else:
            counting = font.lookups[lookup].rules[rule]
            matched = seen_items(font, lookup, items, at, 1, len(counting.inside))
            made = what_becomes(font, lookup, counting, items, matched, rule_at)
            items[at:matched[-1] + 1] = made
            at += len(made)
    return items


def walked_back(font, lookup, run, forms, rule_at):
    """Return the run behind a walk from the last item to the first."""
    items = list(run)
    for at in range(len(items) - 1, -1, -1):
        rule = rule_at(lookup, items, at, forms)
        if rule is not None:
            items[at] = swapped(font, font.lookups[lookup].rules[rule], items[at])
    return items


def what_becomes(font, lookup, rule, items, matched, rule_at):
    """Return what the matched items, and those between them, become."""
    kind = font.lookups[lookup].kind
    if kind == "ligature":
        return joined(font, rule, items, matched)
    if kind == "chain":
        return called(font, rule, items, matched, rule_at)
    return replaced(font, kind, rule, items[matched[0]])


def replaced(font, kind, rule, item):
    """Return the items that an item becomes by a rule of the kind single or multiple."""
    if kind == "single":
        return [swapped(font, rule, item)]
    return [new_item(font, glyph, item[1], item[2]) for glyph in rule.out]


def swapped(font, rule, item):
    """Return the item for the glyph of out that stands where the item's glyph stands in the set."""
    glyph = rule.out[rule.inside[0].index(item[0])]
    return new_item(font, glyph, item[1], item[2])


def joined(font, rule, items, matched):
    """Return the item of a ligature, and the items that were passed over behind it."""
    cluster = min([items[index][1] for index in matched])
    passed = [items[index] for index in range(matched[0], matched[-1]) if index not in matched]
    first = new_item(font, rule.out[0], cluster, items[matched[0]][2])
    return [first] + [(item[0], cluster) + item[2:] for item in passed]


def called(font, rule, items, matched, rule_at):
    """Return what the items of a chain become by the lookups that its rule calls."""
    made = items[matched[0]:matched[-1] + 1]
    # From the last call to the first, so that the places of the earlier items stay.
    for index, lookup in reversed(rule.calls):
        place = matched[index] - matched[0]
        made[place:place + 1] = called_at(font, lookup, made[place], rule_at)
    return made


def called_at(font, lookup, item, rule_at):
    """Return the items that an item becomes by a lookup that a chain calls."""
    # Such a lookup has one set inside and no others, so that the item alone decides.
    rule = rule_at(lookup, [item], 0, ())
    if rule is None:
        return [item]
    return replaced(font, font.lookups[lookup].kind, font.lookups[lookup].rules[rule], item)


def new_item(font, glyph, cluster, form):
    """Return the new item for a glyph."""
    return (glyph, cluster, form, font.glyphs[glyph].advance, 0, 0)
