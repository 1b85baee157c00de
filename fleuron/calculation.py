"""What the words of the hint machine compute from their values; the machine keeps the results."""

ONE_PIXEL = 64
HALF_PIXEL = 32


def rounded_exactly(mode, n):
    """Return the number rounded by a mode from 0 to 5."""
    if mode == 0:
        return n
    if mode == 1:
        return (n + HALF_PIXEL) // ONE_PIXEL * ONE_PIXEL
    if mode == 2:
        return n // ONE_PIXEL * ONE_PIXEL + HALF_PIXEL
    if mode == 3:
        return (n + HALF_PIXEL // 2) // HALF_PIXEL * HALF_PIXEL
    if mode == 4:
        return n // ONE_PIXEL * ONE_PIXEL
    return (n + ONE_PIXEL - 1) // ONE_PIXEL * ONE_PIXEL


def added(a, b):
    """Return the sum."""
    return a + b


def subtracted(a, b):
    """Return the difference."""
    return a - b


def multiplied(a, b):
    """Return the product of two numbers of 64ths, in 64ths."""
    return a * b // ONE_PIXEL


def divided(a, b):
    """Return the quotient of two numbers of 64ths, in 64ths; 0 if the divisor is 0."""
    if b == 0:
        return 0
    return ONE_PIXEL * a // b


def negated(a):
    """Return the number with the opposite sign."""
    return -a


def amount(a):
    """Return the number without its sign."""
    return abs(a)


def lesser(a, b):
    """Return the lesser number."""
    return min(a, b)


def greater(a, b):
    """Return the greater number."""
    return max(a, b)


def is_less(a, b):
    """Return 1 if a is less than b, otherwise 0."""
    return int(a < b)


def is_at_most(a, b):
    """Return 1 if a is at most b, otherwise 0."""
    return int(a <= b)


def is_equal(a, b):
    """Return 1 if both numbers are equal, otherwise 0."""
    return int(a == b)


def is_zero(a):
    """Return 1 if the number is 0, otherwise 0."""
    return int(a == 0)


def are_both(a, b):
    """Return 1 if both numbers are not 0, otherwise 0."""
    return int(a != 0 and b != 0)


def is_either(a, b):
    """Return 1 if one of the numbers is not 0, otherwise 0."""
    return int(a != 0 or b != 0)


OF_ONE = {"negate": negated, "amount": amount, "not": is_zero}
OF_TWO = {
    "add": added, "subtract": subtracted, "multiply": multiplied, "divide": divided,
    "lesser": lesser, "greater": greater, "less": is_less, "atmost": is_at_most, "equal": is_equal,
    "and": are_both, "or": is_either,
}


def is_calculation(word):
    """Return True if the word computes a number from its values alone."""
    return word in OF_ONE or word in OF_TWO


def calculated(word, values):
    """Return the number that a calculation gives for the values that it takes."""
    if word in OF_ONE:
        action = OF_ONE[word]
        return action(values[0])
    action = OF_TWO[word]
    return action(values[0], values[1])
