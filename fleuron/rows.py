"""Small helps for lists."""


def tuples_of(rows):
    """Return a new list of the rows, each a tuple."""
    return [tuple(row) for row in rows]


def is_rising(numbers, many):
    """Return True if the list ascends, without duplicates, and its numbers are from 0 to below many."""
    last = -1
    for number in numbers:
        if not last < number < many:
            return False
        last = number
    return True
