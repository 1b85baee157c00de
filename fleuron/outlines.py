"""Outlines: lists of contours, which are lists of points (x, y, on)."""

MOST_CONTOURS = 40
LEAST_OF_CONTOUR = 2
MOST_POINTS = 200
FARTHEST = 16384
STEPS = 8


def is_proper(outline):
    """Return True if the outline is within the limits of a glyph's outline."""
    if len(outline) > MOST_CONTOURS or count_points(outline) > MOST_POINTS:
        return False
    for contour in outline:
        if len(contour) < LEAST_OF_CONTOUR:
            return False
        for x, y, _ in contour:
            if abs(x) > FARTHEST or abs(y) > FARTHEST:
                return False
    return True


def count_points(outline):
    """Return the number of points of all contours."""
    return sum([len(contour) for contour in outline])


def box(outline):
    """Return (least x, least y, greatest x, greatest y), or None without points."""
    points = [point for contour in outline for point in contour]
    if not points:
        return None
    across = [point[0] for point in points]
    along = [point[1] for point in points]
    return (min(across), min(along), max(across), max(along))


def turning_sum(outline):
    """Return the turning sum of the outline."""
    total = 0
    for contour in outline:
        for point, following in zip(contour, begun_at(contour, 1)):
            total += point[0] * following[1] - following[0] * point[1]
    return total


def moved(outline, x, y):
    """Return the outline with all points moved."""
    return [[(px + x, py + y, on) for px, py, on in contour] for contour in outline]


def reversed_outline(outline):
    """Return the outline with all contours reversed."""
    return [list(contour[:1]) + list(contour[:0:-1]) for contour in outline]


def lines(outline):
    """Return the list of the lines of the contours."""
    return [line_of(contour) for contour in outline]


def line_of(contour):
    """Return the line of a contour, a list of pairs."""
    ring = ring_of(contour)
    if not ring:
        return []
    closed = ring + ring[:1]
    line = [closed[0][:2]]
    for k in range(len(ring)):
        if not closed[k][2]:
            line.extend(curve(closed[k - 1], closed[k], closed[k + 1]))
        elif closed[k + 1][2]:
            line.append(closed[k + 1][:2])
    # The beginning, which has been reached again, already stands first.
    return line[:-1]


def ring_of(contour):
    """Return the contour with its middle points, from where its line begins."""
    places_on = [k for k in range(len(contour)) if contour[k][2]]
    if places_on:
        return with_middles(begun_at(contour, places_on[0]))
    # The last item is the middle point between the last point and the first one.
    ring = with_middles(contour)
    return ring[-1:] + ring[:-1]


def begun_at(contour, k):
    """Return the points of the contour, around it, from the one with the index k."""
    return list(contour[k:]) + list(contour[:k])


def with_middles(contour):
    """Return the contour with its middle points in their places."""
    ring = []
    for point, following in zip(contour, begun_at(contour, 1)):
        ring.append(point)
        if not point[2] and not following[2]:
            ring.append(middle(point, following))
    return ring


def middle(a, b):
    """Return the middle point between two points."""
    return ((a[0] + b[0]) // 2, (a[1] + b[1]) // 2, True)


def curve(a, c, b):
    """Return the pairs behind a on the way to b, around the point c that is off."""
    return [(curve_at(n, a[0], c[0], b[0]), curve_at(n, a[1], c[1], b[1])) for n in range(1, STEPS + 1)]


def curve_at(n, a, c, b):
    """Return the coordinate at step n of the curve from a to b around c."""
    rest = STEPS - n
    scale = STEPS * STEPS
    return (rest * rest * a + 2 * n * rest * c + n * n * b + scale // 2) // scale
