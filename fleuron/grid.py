"""The grid of pixels: outlines scaled and fitted to a size."""

from fleuron.compose import check_known, flat_outline
from fleuron.errors import InvalidSize
from fleuron.machine import Program, Zone, run_program
from fleuron.straight import MOST_STEPS, build_code, checked_tables, run_code

ONE_PIXEL = 64
LEAST_SIZE = 1
GREATEST_SIZE = 200


def scaled(unit, size, n):
    """Return the nearest integer of the number of units on the grid of a size."""
    return (2 * n * ONE_PIXEL * size + unit) // (2 * unit)


def zone_of(font, outline, size):
    """Return the zone of an outline, scaled to a size."""
    points = [(scaled(font.unit, size, x), scaled(font.unit, size, y)) for contour in outline for x, y, _ in contour]
    ends = []
    last = -1
    for contour in outline:
        last += len(contour)
        if contour:
            ends.append(last)
    return Zone(points, points, [0] * len(points), ends)


def program_of(font, number, size):
    """Return the program of a glyph for a size."""
    check_known(font, number)
    presets = [scaled(font.unit, size, n) for n in font.presets]
    return Program(font.glyphs[number].hint, functions=font.functions, presets=presets, size=size)


def fitted(font, number, size):
    """Return the outline of a glyph, fitted to a size by straight code."""
    program = checked_program(font, number, size)
    code = build_code(program)
    outline = flat_outline(font, number)
    return with_points(outline, run_code(code, program, zone_of(font, outline, size)).current)


def fitted_slow(font, number, size):
    """Return the outline of a glyph, fitted to a size step by step."""
    program = checked_program(font, number, size)
    # What building raises is asked first, so that both ways refuse the same.
    checked_tables(program)
    outline = flat_outline(font, number)
    return with_points(outline, run_program(program, zone_of(font, outline, size), MOST_STEPS).current)


def checked_program(font, number, size):
    """Return the program of a glyph for a size that is from 1 to 200."""
    if not LEAST_SIZE <= size <= GREATEST_SIZE:
        raise InvalidSize()
    return program_of(font, number, size)


def with_points(outline, points):
    """Return the outline with other places of its points, a list of pairs."""
    whole = []
    at = 0
    for contour in outline:
        places = points[at:at + len(contour)]
        whole.append([(x, y, point[2]) for point, (x, y) in zip(contour, places)])
        at += len(contour)
    return whole
