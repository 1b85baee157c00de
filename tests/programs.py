"""Random hint programs and zones that several tests use."""

from fleuron.machine import Program, Zone

# For each word how many values it takes, and how many it puts, as the table of point 53 tells.
TABLE = {
    "push": (0, 1), "drop": (1, 0), "copy": (1, 2), "swap": (2, 2), "add": (2, 1), "subtract": (2, 1),
    "multiply": (2, 1), "divide": (2, 1), "negate": (1, 1), "amount": (1, 1), "lesser": (2, 1), "greater": (2, 1),
    "down": (1, 1), "up": (1, 1), "round": (1, 1), "less": (2, 1), "atmost": (2, 1), "equal": (2, 1), "not": (1, 1),
    "and": (2, 1), "or": (2, 1), "look": (0, 0), "go": (0, 0), "mode": (0, 0), "value": (1, 1), "load": (1, 1),
    "setvalue": (2, 0), "save": (2, 0), "get": (1, 1), "origin": (1, 1), "move": (2, 0), "set": (2, 0),
    "align": (2, 0), "between": (0, 0), "jump": (0, 0), "jumpzero": (1, 0), "call": (0, 0), "repeat": (1, 0),
    "size": (0, 1),
}
PLAIN = [word for word in sorted(TABLE) if word not in ("jump", "jumpzero", "call", "repeat")]
NUMBERS = (0, 0, 1, 1, 2, 3, 4, 5, 6, -1, 40, 64, 100, -70, 2147483647, -2147483648)


def push(*values):
    """Return the instructions that push the values."""
    return [("push", value) for value in values]


def padded(code, height, wanted):
    """Return the code with what brings it to another height."""
    return code + [("drop", 0)] * (height - wanted) + push(*[5] * (wanted - height))


def balanced(source, height, length, functions, deep=0):
    """Return random code that begins at a height and is never below 0, and the height behind it.

    functions is a list of pairs (need, change).
    """
    code = []
    for _ in range(length):
        kind = source.choice(("plain", "plain", "plain", "plain", "choice", "skip", "call", "repeat"))
        if kind == "choice" and deep < 2:
            first, at_first = balanced(source, height, source.randrange(4), functions, deep + 1)
            second, at_second = balanced(source, height, source.randrange(4), functions, deep + 1)
            second = padded(second, at_second, at_first)
            first = first + [("jump", len(second))]
            code += push(source.choice((0, 1))) + [("jumpzero", len(first))] + first + second
            height = at_first
        elif kind == "skip" and deep < 2:
            inner, at_end = balanced(source, height, source.randrange(4), functions, deep + 1)
            inner = padded(inner, at_end, height)
            code += [("size", 0), ("push", source.choice((10, 12))), ("less", 0), ("jumpzero", len(inner))] + inner
        elif kind in ("call", "repeat") and functions:
            number = source.randrange(len(functions))
            need, change = functions[number]
            if height >= need and height + change < 9 and (kind == "call" or change == 0):
                code += push(source.choice((-3, 0, 1, 2, 3, 17))) if kind == "repeat" else []
                code.append((kind, number))
                height += change
        elif kind == "plain":
            word = source.choice([word for word in PLAIN if TABLE[word][0] <= height])
            if height - TABLE[word][0] + TABLE[word][1] < 9:
                code.append((word, source.choice(NUMBERS)))
                height += TABLE[word][1] - TABLE[word][0]
    return code, height


def some_program(source, many=4, length=12):
    """Return a random program that mostly has accepted tables."""
    functions, told = [], []
    for _ in range(many):
        need = source.randrange(3)
        code, height = balanced(source, need, source.randrange(6), told)
        if source.random() < 0.5:
            code, height = padded(code, height, need), need
        functions.append(code)
        told.append((need, height - need))
    main, _ = balanced(source, 0, source.randrange(length), told)
    presets = [source.randint(-99, 99) for _ in range(source.randrange(5))]
    return Program(main, functions=functions, presets=presets, size=source.choice((9, 11, 40)))


def wild_code(source, length):
    """Return random instructions that often have the values that they take, and seldom fit together."""
    code, height = [], 0
    for _ in range(length):
        word = source.choice(sorted(TABLE))
        if height < TABLE[word][0] and source.random() < 0.9:
            word = "push"
        number = source.choice((0, 1, 2, 3))
        code.append((word, number))
        height += TABLE[word][1] - TABLE[word][0]
    return code


def some_zone(source, many=7):
    """Return a random zone of two contours."""
    original = [(source.randint(-200, 200), source.randint(-200, 200)) for _ in range(many)]
    current = [(x + source.randint(-9, 9), y + source.randint(-9, 9)) for x, y in original]
    return Zone(original, current, [source.randrange(4) for _ in range(many)], [2, many - 1])
