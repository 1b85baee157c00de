"""The hint machine, written after points 48 to 55 a second time, to compare with: slow, and by recursion."""


class Stopped(Exception):
    """The machine has ended with an error."""


def kept(n):
    """Return the kept number."""
    while n > 2147483647:
        n -= 4294967296
    while n < -2147483648:
        n += 4294967296
    return n


ROUND = [
    lambda n: n, lambda n: (n + 32) // 64 * 64, lambda n: n // 64 * 64 + 32, lambda n: (n + 16) // 32 * 32,
    lambda n: n // 64 * 64, lambda n: (n + 63) // 64 * 64,
]
ONE = {
    "negate": lambda a: -a, "amount": abs, "down": ROUND[4], "up": ROUND[5], "not": lambda a: 1 if a == 0 else 0,
}
TWO = {
    "add": lambda a, b: a + b, "subtract": lambda a, b: a - b, "multiply": lambda a, b: a * b // 64,
    "divide": lambda a, b: 64 * a // b if b else 0, "lesser": min, "greater": max, "less": lambda a, b: int(a < b),
    "atmost": lambda a, b: int(a <= b), "equal": lambda a, b: int(a == b), "and": lambda a, b: int(bool(a and b)),
    "or": lambda a, b: int(bool(a or b)),
}
TAKES_ONE = ("drop", "copy", "round", "value", "load", "get", "origin", "jumpzero", "repeat") + tuple(ONE)
TAKES_TWO = ("swap", "setvalue", "save", "move", "set", "align") + tuple(TWO)
PUTS_ONE = ("push", "size", "round", "value", "load", "get", "origin") + tuple(ONE) + tuple(TWO)
OTHERS = ("look", "go", "mode", "between", "jump", "call")


def outcome_by_points(program, zone, steps):
    """Return the attributes of the outcome in a dict."""
    told = Told(program, zone, steps)
    try:
        told.do(program.main, 0)
    except Stopped as stop:
        told.error = str(stop)
    return {
        "original": told.points[1], "current": told.points[0], "touched": told.touched, "presets": told.presets,
        "storage": told.storage, "stack": told.stack, "steps": told.steps, "peak": told.peak, "error": told.error,
    }


class Told:
    """A machine that does lists of instructions one inside the other."""

    def __init__(self, program, zone, limit):
        self.program, self.limit = program, limit
        self.points = [list(zone.current), list(zone.original)]
        self.touched, self.ends = list(zone.touched), list(zone.ends)
        self.presets, self.storage = list(program.presets), [0] * 32
        self.look = self.go = 0
        self.mode = 1
        self.stack, self.steps, self.peak, self.error = [], 0, 0, None

    def do(self, code, calls):
        """Do a list of instructions."""
        at = 0
        while at < len(code):
            word, number = code[at]
            self.check(word, number, len(code) - at - 1, calls)
            if self.steps == self.limit:
                raise Stopped("steps")
            self.steps += 1
            at += 1
            takes = (word in TAKES_ONE) + 2 * (word in TAKES_TWO)
            values = [self.stack.pop() for _ in range(takes)][::-1]
            if word == "jump" or word == "jumpzero" and values[0] == 0:
                at += number
            if word in ("call", "repeat"):
                for _ in range(1 if word == "call" else max(0, min(16, values[0]))):
                    self.do(self.program.functions[number], calls + 1)
            else:
                self.stack.extend(kept(n) for n in self.work(word, number, values))
            self.peak = max(self.peak, len(self.stack))

    def check(self, word, number, behind, calls):
        """Stop if the instruction is impossible."""
        takes = (word in TAKES_ONE) + 2 * (word in TAKES_TWO)
        puts = (word in PUTS_ONE) + 2 * (word in ("copy", "swap"))
        if not (takes or puts or word in OTHERS):
            raise Stopped("word")
        if len(self.stack) < takes or len(self.stack) - takes + puts > 32:
            raise Stopped("stack")
        if word in ("jump", "jumpzero") and (number < 0 or number > behind):
            raise Stopped("jump")
        if word in ("call", "repeat") and (number not in range(len(self.program.functions)) or calls == 20):
            raise Stopped("call")

    def work(self, word, number, values):
        """Do an instruction that is no call; return what it puts."""
        if word in ONE:
            return [ONE[word](*values)]
        if word in TWO:
            return [TWO[word](*values)]
        puts = {"push": [number], "drop": [], "copy": values * 2, "swap": values[::-1], "size": [self.program.size]}
        if word in puts:
            return puts[word]
        if word == "round":
            return [ROUND[self.mode](values[0])]
        if word in ("value", "load"):
            row = self.presets if word == "value" else self.storage
            return [row[values[0]] if values[0] in range(len(row)) else 0]
        if word in ("get", "origin"):
            row = self.points[0 if word == "get" else 1]
            return [row[values[0]][self.look] if values[0] in range(len(row)) else 0]
        self.change(word, number, values)
        return []

    def change(self, word, number, values):
        """Do an instruction that puts nothing."""
        if word == "look":
            self.look = number % 2
        elif word == "go":
            self.go = number % 2
        elif word == "mode":
            self.mode = number % 6
        elif word in ("setvalue", "save"):
            row = self.presets if word == "setvalue" else self.storage
            if values[0] in range(len(row)):
                row[values[0]] = values[1]
        elif word in ("move", "set", "align"):
            self.move(word, *values)
        elif word == "between":
            self.between(number % 2)

    def move(self, word, first, second):
        """Do move, set or align."""
        known = range(len(self.touched))
        if first not in known or word == "align" and second not in known:
            return
        if word != "move" and self.look != self.go:
            return
        if word == "move":
            p, n = first, self.points[0][first][self.go] + second
        elif word == "set":
            p, n = first, second
        else:
            p, n = second, self.points[0][first][self.go]
        self.put(p, self.go, n)
        self.touched[p] |= 1 << self.go

    def put(self, p, axis, n):
        """Give a point a coordinate."""
        point = list(self.points[0][p])
        point[axis] = kept(n)
        self.points[0][p] = tuple(point)

    def between(self, axis):
        """Do between, point by point."""
        now = [point[axis] for point in self.points[0]]
        was = [point[axis] for point in self.points[1]]
        first = 0
        for last in self.ends:
            contour = list(range(first, last + 1))
            first = last + 1
            for p in contour:
                if not any(self.touched[q] >> axis & 1 for q in contour) or self.touched[p] >> axis & 1:
                    continue
                at = contour.index(p)
                around = contour[at + 1:] + contour[:at]
                held = [q for q in around if self.touched[q] >> axis & 1]
                a, b = held[-1], held[0]
                if was[a] > was[b]:
                    a, b = b, a
                if was[p] <= was[a]:
                    n = was[p] + now[a] - was[a]
                elif was[p] >= was[b]:
                    n = was[p] + now[b] - was[b]
                else:
                    wide = was[b] - was[a]
                    n = now[a] + (2 * (was[p] - was[a]) * (now[b] - now[a]) + wide) // (2 * wide)
                self.put(p, axis, n)
