"""Pixels: which ones lines make black, and pictures of them."""

from fleuron.errors import TooLarge
from fleuron.grid import fitted
from fleuron.outlines import lines

ONE_PIXEL = 64
HALF_PIXEL = 32
WIDEST = 65536
MOST_IN_PICTURE = 1000
# Two fractions with divisors up to the widest number differ by at least one part of so many, or not at all.
FINE = 4294967296


def winding(rows, x, y):
    """Return the winding of lines at a point."""
    total = 0
    for edge in edges_of(rows):
        if is_crossed(edge, y):
            p, q = crossing(edge, y)
            if p <= x * q:
                total += direction(edge)
    return total


def fill(rows):
    """Return the black pixels of lines, in ascending order."""
    pairs = [pair for row in rows for pair in row]
    if is_too_wide([x for x, _ in pairs]) or is_too_wide([y for _, y in pairs]):
        raise TooLarge("lines")
    black = []
    for k, crossings in crossings_by_rows(rows).items():
        for a, b in stretches(crossings):
            black.extend([(i, k) for i in columns(a, b)])
    return sorted(set(black))


def glyph_pixels(font, number, size):
    """Return the black pixels of a glyph, fitted to a size."""
    return fill(lines(fitted(font, number, size)))


def moved_pixels(pixels, across, along):
    """Return the pixels, moved by so many columns and rows."""
    return [(i + across, k + along) for i, k in pixels]


def joined(first, second):
    """Return all pixels of two lists, in ascending order, each once."""
    return sorted(set(first) | set(second))


def picture(pixels):
    """Return the picture of pixels, a list of strings."""
    if not pixels:
        return []
    left = min([i for i, _ in pixels])
    right = max([i for i, _ in pixels])
    lowest = min([k for _, k in pixels])
    highest = max([k for _, k in pixels])
    if right - left >= MOST_IN_PICTURE or highest - lowest >= MOST_IN_PICTURE:
        raise TooLarge("picture")
    black = {pixel: True for pixel in pixels}
    rows = []
    for k in range(highest, lowest - 1, -1):
        rows.append("".join(["#" if (i, k) in black else "." for i in range(left, right + 1)]))
    return rows


def edges_of(rows):
    """Return the edges of lines, tuples (x1, y1, x2, y2)."""
    edges = []
    for row in rows:
        for (x1, y1), (x2, y2) in zip(row, list(row[1:]) + list(row[:1])):
            edges.append((x1, y1, x2, y2))
    return edges


def is_crossed(edge, height):
    """Return True if the edge crosses the height."""
    _, y1, _, y2 = edge
    return min(y1, y2) <= height < max(y1, y2)


def direction(edge):
    """Return 1 if an edge that is not level goes upwards, -1 if it goes downwards."""
    _, y1, _, y2 = edge
    return 1 if y1 < y2 else -1


def crossing(edge, height):
    """Return the x at which an edge crosses a height, a pair (p, q) that stands for p / q, with q above 0."""
    x1, y1, x2, y2 = edge
    if y1 > y2:
        x1, y1, x2, y2 = x2, y2, x1, y1
    return (x1 * (y2 - y1) + (height - y1) * (x2 - x1), y2 - y1)


def is_too_wide(numbers):
    """Return True if the numbers are too far from each other."""
    return len(numbers) > 0 and max(numbers) - min(numbers) > WIDEST


def crossings_by_rows(rows):
    """Return a dict: for each row of pixels whose middle is crossed a list of pairs of a crossing and a direction."""
    found = {}
    for edge in edges_of(rows):
        _, y1, _, y2 = edge
        for k in range(first_center(min(y1, y2), 1), first_center(max(y1, y2), 1)):
            found.setdefault(k, []).append((crossing(edge, ONE_PIXEL * k + HALF_PIXEL), direction(edge)))
    return found


def first_center(p, q):
    """Return the least number of a pixel whose center is not below p / q."""
    return -((HALF_PIXEL * q - p) // (ONE_PIXEL * q))


def stretches(crossings):
    """Return the stretches of a height, pairs of the crossings at which they begin and end."""
    places = {}
    changes = {}
    for (p, q), change in crossings:
        # Equal fractions become equal integers here, and a greater one a greater integer.
        key = p * FINE // q
        places[key] = (p, q)
        changes[key] = changes.get(key, 0) + change
    found = []
    now = 0
    beginning = None
    for key in sorted(places):
        before = now
        now += changes[key]
        if before == 0 and now != 0:
            beginning = places[key]
        elif before != 0 and now == 0:
            found.append((beginning, places[key]))
    return found


def columns(a, b):
    """Return the columns of the pixels that a stretch from a to b makes black."""
    first = first_center(a[0], a[1])
    behind = first_center(b[0], b[1])
    if first < behind:
        return list(range(first, behind))
    return [(a[0] * b[1] + b[0] * a[1]) // (2 * ONE_PIXEL * a[1] * b[1])]
