"""Random fonts with all that a font can have, and texts for them."""

from fleuron.fonts import Font, Glyph, Lookup, Rule
from tests.programs import balanced, some_program

NAMES = ("liga", "solo", "head", "midd", "tail", "kern", "a")
TENTS = ((0, 64, 64), (-64, -64, 0), (0, 20, 64), (-10, 0, 30), (0, 64, 64))


def some_sets(source, many, least, most):
    """Return random sets of glyphs."""
    return [
        sorted(source.sample(range(many), source.randint(1, min(3, many)))) for _ in range(source.randint(least, most))
    ]


def some_rule(source, kind, many, callable_ones):
    """Return a random rule of a kind."""
    inside = {"ligature": (2, 3), "chain": (1, 3), "pair": (2, 2), "marks": (2, 2)}.get(kind, (1, 1))
    sets = some_sets(source, many, *inside)
    around = {"back": some_sets(source, many, 0, 1), "ahead": some_sets(source, many, 0, 1)}
    out = [source.randrange(many) for _ in range(8)]
    if kind in ("single", "reverse"):
        around = around if kind == "reverse" else {}
        return Rule(sets, out=out[:len(sets[0])], **around)
    if kind == "multiple":
        return Rule(sets, out=out[:source.randrange(4)])
    if kind == "ligature":
        return Rule(sets, out=out[:1])
    if kind == "chain":
        calls = [(k, source.choice(callable_ones)) for k in range(len(sets)) if callable_ones and source.random() < 0.7]
        return Rule(sets, calls=calls, **around)
    return Rule(sets, extra=source.randint(-200, 200) if kind == "pair" else 0)


def some_lookup_list(source, many):
    """Return random lookups of all kinds."""
    kinds = ["single", "multiple"]
    kinds += [source.choice("single multiple ligature chain chain reverse pair cursive marks".split())
              for _ in range(source.randrange(1, 7))]
    source.shuffle(kinds)
    callable_ones = [k for k, kind in enumerate(kinds) if kind in ("single", "multiple")]
    return [
        Lookup(kind, [some_rule(source, kind, many, callable_ones) for _ in range(source.randrange(1, 5))],
               ignore=source.random() < 0.4)
        for kind in kinds
    ]


def some_glyph(source, number, many, functions, regions):
    """Return a random glyph."""
    outline = [
        [(source.randint(-60, 260), source.randint(-60, 260), source.random() < 0.6) for _ in range(source.randint(2, 5))]
        for _ in range(source.randrange(3))
    ]
    points = sum(len(contour) for contour in outline)
    parts = []
    if number % 4 and source.random() < 0.6:
        parts = [(number - 1, source.randint(-50, 50), source.randint(-50, 50)) for _ in range(source.randint(1, 2))]
    anchors = [
        (kind, source.randrange(2), source.randint(-99, 99), source.randint(-99, 99))
        for kind in ("base", "mark", "entry", "exit") for _ in range(source.randrange(3))
    ]
    deltas = [
        (source.randrange(regions), source.randrange(-1, points), source.randint(0, 60), source.randint(-60, 60))
        for _ in range(source.randrange(4) if regions else 0)
    ]
    hint, _ = balanced(source, 0, source.choice((0, 0, 4, 8)), functions)
    return Glyph(source.randint(0, 300), outline, parts=parts, anchors=anchors, mark=source.random() < 0.25,
                 deltas=deltas, hint=hint)


def whole_font(source, *, least=4, most=12):
    """Return a random font."""
    many = source.randint(least, most)
    axes = [source.choice(((0, 0, 10), (-5, 0, 5), (100, 400, 900))) for _ in range(source.randrange(3))]
    regions = [[source.choice(TENTS) for _ in axes] for _ in range(source.randrange(4))]
    program = some_program(source, 3, 4)
    # Hints call the empty functions behind the others alone, whose costs are known.
    functions = program.functions + [[], []]
    glyphs = [some_glyph(source, k, many, [(9, 0)] * 3 + [(0, 0)] * 2, len(regions)) for k in range(many)]
    lookups = some_lookup_list(source, many)
    features = [
        (name, sorted(source.sample(range(len(lookups)), source.randint(0, len(lookups)))))
        for name in source.sample(NAMES, source.randrange(1, 5))
    ]
    chars = [(97 + k, source.randrange(many)) for k in range(source.randint(1, many))]
    return Font(source.choice((64, 100, 256)), glyphs, chars=chars, lookups=lookups, features=features, axes=axes,
                regions=regions, functions=functions, presets=program.presets)


def some_request(source, font):
    """Return random codes and names for a font, of which some are unknown and some stand twice."""
    codes = [97 + source.randrange(len(font.glyphs) + 2) for _ in range(source.randrange(9))]
    names = [source.choice([name for name, _ in font.features] + ["none"]) for _ in range(source.randrange(4))]
    return codes, names


def some_tables(source):
    """Return random tables of joins and orders."""
    joins = [(97 + k, source.choice(("both", "back", "through"))) for k in range(source.randrange(9))]
    orders = [(99 + k, source.randint(1, 3)) for k in range(source.randrange(4))]
    return {"joins": joins, "orders": orders}


def some_place(source, font):
    """Return None or a random place of the font."""
    if source.random() < 0.3:
        return None
    return [source.randint(least, greatest) for least, _, greatest in font.axes]
