"""The instructions of the hint machine."""

# For each word how many values it takes from the stack, and how many it puts on it.
WORDS = {
    "push": (0, 1), "drop": (1, 0), "copy": (1, 2), "swap": (2, 2),
    "add": (2, 1), "subtract": (2, 1), "multiply": (2, 1), "divide": (2, 1),
    "negate": (1, 1), "amount": (1, 1), "lesser": (2, 1), "greater": (2, 1),
    "down": (1, 1), "up": (1, 1), "round": (1, 1),
    "less": (2, 1), "atmost": (2, 1), "equal": (2, 1), "not": (1, 1), "and": (2, 1), "or": (2, 1),
    "look": (0, 0), "go": (0, 0), "mode": (0, 0),
    "value": (1, 1), "load": (1, 1), "setvalue": (2, 0), "save": (2, 0),
    "get": (1, 1), "origin": (1, 1), "move": (2, 0), "set": (2, 0), "align": (2, 0), "between": (0, 0),
    "jump": (0, 0), "jumpzero": (1, 0), "call": (0, 0), "repeat": (1, 0), "size": (0, 1),
}
JUMPS = ("jump", "jumpzero")
CALLS = ("call", "repeat")
LEAST_NUMBER = -2147483648
GREATEST_NUMBER = 2147483647


def is_instruction(step):
    """Return True if the pair (word, number) is an instruction that a font may have."""
    return step[0] in WORDS and LEAST_NUMBER <= step[1] <= GREATEST_NUMBER
