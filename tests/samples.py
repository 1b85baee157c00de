"""Fonts, runs and lookups that several tests use."""

from fleuron.fonts import Font, Glyph, Lookup, Rule

# Six glyphs with the advances 10 to 60, and the marks 6 and 7.
GLYPHS = [Glyph(10 * k, []) for k in range(1, 7)] + [Glyph(7, [], mark=True), Glyph(8, [], mark=True)]
ADVANCES = [10, 20, 30, 40, 50, 60, 7, 8]


def font_with(*lookups):
    """Return a font with the lookups."""
    return Font(100, GLYPHS, lookups=lookups)


def run_of(glyphs, forms=None):
    """Return a run of the glyphs, each a cluster of its own, with offsets that are not 0."""
    return [
        (glyph, k, 0 if forms is None else forms[k], ADVANCES[glyph] + 1, 100 + k, -k)
        for k, glyph in enumerate(glyphs)
    ]


def some_lookups(source):
    """Return lookups of all kinds that replace, with random rules."""
    def chosen():
        return sorted(source.sample(range(8), source.randint(1, 5)))

    def sets(least, most):
        return [chosen() for _ in range(source.randint(least, most))]

    def out(many):
        return [source.randrange(8) for _ in range(many)]

    def flag():
        return source.random() < 0.5

    def replacing():
        inside = chosen()
        return Rule([inside], out=out(len(inside)))

    def reverse():
        inside = chosen()
        return Rule([inside], back=sets(0, 2), ahead=sets(0, 2), out=out(len(inside)))

    def chain():
        inside = sets(1, 3)
        calls = [(index, source.randrange(2)) for index in range(len(inside)) if flag()]
        return Rule(inside, back=sets(0, 2), ahead=sets(0, 2), calls=calls)

    return [
        Lookup("single", [replacing() for _ in range(3)], ignore=flag()),
        Lookup("multiple", [Rule([chosen()], out=out(source.randint(0, 4))) for _ in range(3)], ignore=flag()),
        Lookup("ligature", [Rule(sets(2, 3), out=out(1)) for _ in range(3)], ignore=flag()),
        Lookup("chain", [chain() for _ in range(3)], ignore=flag()),
        Lookup("reverse", [reverse() for _ in range(3)], ignore=flag()),
    ]


def status_by_definition(patterns_now, row):
    """Return the status of patterns behind a row, word for word as point 27 tells it."""
    status = []
    for pattern in patterns_now:
        shorter = min(len(pattern), len(row))
        if not all(row[k] in pattern[k] for k in range(shorter)):
            status.append(-1)
        elif len(row) >= len(pattern):
            status.append(len(pattern))
        else:
            status.append(len(row))
    return status


def small_chain(source, many):
    """Return a lookup of the kind chain with up to three random rules, for a font of so many glyphs."""
    def sets(least, most):
        return [
            sorted(source.sample(range(many), source.randint(1, many))) for _ in range(source.randint(least, most))
        ]

    return Lookup("chain", [Rule(sets(1, 2), back=sets(0, 3), ahead=sets(0, 2)) for _ in range(source.randint(0, 3))])
