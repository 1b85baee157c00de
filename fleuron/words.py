"""The instructions of the hint machine."""

WORDS = (
    "push", "drop", "copy", "swap",
    "add", "subtract", "multiply", "divide", "negate", "amount", "lesser", "greater",
    "down", "up", "round",
    "less", "atmost", "equal", "not", "and", "or",
    "look", "go", "mode",
    "value", "load", "setvalue", "save",
    "get", "origin", "move", "set", "align", "between",
    "jump", "jumpzero", "call", "repeat", "size",
)
LEAST_NUMBER = -2147483648
GREATEST_NUMBER = 2147483647


def is_instruction(step):
    """Return True if the pair (word, number) is an instruction that a font may have."""
    return step[0] in WORDS and LEAST_NUMBER <= step[1] <= GREATEST_NUMBER
