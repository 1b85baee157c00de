"""Points between touched points of their contours."""


def is_touched(number, axis):
    """Return True if the touched number of a point says that it is touched along the axis."""
    return number // (axis + 1) % 2 == 1


def placed_between(original, current, touched, ends, axis):
    """Return a dict with the coordinates that the points between get along the axis."""
    was = [point[axis] for point in original]
    now = [point[axis] for point in current]
    placed = {}
    first = 0
    for last in ends:
        held = [p for p in range(first, last + 1) if is_touched(touched[p], axis)]
        for a, b in zip(held, held[1:] + held[:1]):
            for p in points_from(a, b, first, last):
                placed[p] = coordinate(was[p], (was[a], now[a]), (was[b], now[b]))
        first = last + 1
    return placed


def points_from(a, b, first, last):
    """Return the points behind a and before b around the contour with the points from first to last."""
    if a < b:
        return list(range(a + 1, b))
    return list(range(a + 1, last + 1)) + list(range(first, b))


def coordinate(at, a, b):
    """Return the coordinate of a point between two touched ones, each a pair of what it was and what it is."""
    if a[0] > b[0]:
        a, b = b, a
    if at <= a[0]:
        return at + a[1] - a[0]
    if at >= b[0]:
        return at + b[1] - b[0]
    span = b[0] - a[0]
    return a[1] + (2 * (at - a[0]) * (b[1] - a[1]) + span) // (2 * span)
