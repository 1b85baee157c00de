"""Characters of texts: the forms in which they join, and the order in which they are arranged."""

from fleuron.errors import InvalidTable

JOINS_FORWARD = ("both",)
JOINS_BACK = ("both", "back")
KINDS = ("both", "back", "through")
LEAST_ORDER = 1
GREATEST_ORDER = 254


def forms(codes, joins):
    """Return the list of the forms of the characters."""
    table = entries_of(joins)
    if not all([kind in KINDS for kind in table.values()]):
        raise InvalidTable()
    kinds = [table.get(code) for code in codes]
    with_later = [False for _ in codes]
    with_earlier = [False for _ in codes]
    # Only neighbours can be joined, if characters of the kind through are left out.
    places = [at for at, kind in enumerate(kinds) if kind != "through"]
    for at, after in zip(places, places[1:]):
        if kinds[at] in JOINS_FORWARD and kinds[after] in JOINS_BACK:
            with_later[at] = True
            with_earlier[after] = True
    return [form_of(kind, with_later[at], with_earlier[at]) for at, kind in enumerate(kinds)]


def form_of(kind, with_later, with_earlier):
    """Return the form of a character of a kind that is joined so."""
    if kind not in JOINS_BACK:
        return 0
    if with_later:
        return 3 if with_earlier else 2
    return 4 if with_earlier else 1


def arranged(codes, orders):
    """Return the arranged text, a list of pairs of a code and the number of its cluster."""
    known = entries_of(orders)
    if not all([LEAST_ORDER <= order <= GREATEST_ORDER for order in known.values()]):
        raise InvalidTable()
    placed = []
    cluster = 0
    for at, code in enumerate(codes):
        order = known.get(code, 0)
        if order == 0:
            cluster = at
        placed.append((cluster, order, at, code))
    return [(row[3], row[0]) for row in sorted(placed)]


def entries_of(table):
    """Return a dict with the entries of a table of pairs, which has no code twice."""
    entries = {}
    for code, entry in table:
        if code in entries:
            raise InvalidTable()
        entries[code] = entry
    return entries
