"""The hint machine: it moves the points of an outline by the instructions of a program."""

from fleuron.between import is_touched, placed_between
from fleuron.calculation import calculated, is_calculation, rounded_exactly
from fleuron.rows import tuples_of
from fleuron.words import CALLS, JUMPS, LEAST_NUMBER, WORDS

MANY_NUMBERS = 4294967296
PLACES_OF_STORAGE = 32
MOST_VALUES = 32
MOST_CALLS = 20
MOST_ROUNDS = 16
MODES = 6
DOWN = 4
UP = 5


class Zone:
    """The points on which a program works. The machine, not the zone, keeps the numbers."""

    def __init__(self, original, current, touched, ends):
        self.original = tuples_of(original)
        self.current = tuples_of(current)
        self.touched = list(touched)
        self.ends = list(ends)


class Program:
    """A list of instructions, with the functions that it may call, its presets and its size."""

    def __init__(self, main, *, functions=(), presets=(), size=0):
        self.main = tuples_of(main)
        self.functions = [tuples_of(function) for function in functions]
        self.presets = list(presets)
        self.size = size


class Outcome:
    """What a machine left. The stack has its bottom first; the error is a string or None."""

    def __init__(self, ground, stack, steps, peak, error):
        self.original = list(ground.original)
        self.current = list(ground.current)
        self.touched = list(ground.touched)
        self.presets = list(ground.presets)
        self.storage = list(ground.storage)
        self.stack = list(stack)
        self.steps = steps
        self.peak = peak
        self.error = error


class Ground:
    """All that instructions work on, but for the stack and the place in the program."""

    def __init__(self, program, zone):
        self.original = kept_pairs(zone.original)
        self.current = kept_pairs(zone.current)
        self.touched = list(zone.touched)
        self.ends = list(zone.ends)
        self.presets = [kept(n) for n in program.presets]
        self.storage = [0] * PLACES_OF_STORAGE
        self.size = kept(program.size)
        self.looking = 0
        self.going = 0
        self.mode = 1

    def number_put(self, word, values):
        """Return the number that a word puts which puts just one for the values that it takes."""
        if is_calculation(word):
            return kept(calculated(word, values))
        if word == "down":
            return rounded(DOWN, values[0])
        if word == "up":
            return rounded(UP, values[0])
        if word == "round":
            return rounded(self.mode, values[0])
        if word == "size":
            return self.size
        return self.number_read(word, values[0])

    def number_read(self, word, at):
        """Return the preset, the number in the storage or the coordinate, or 0 if it does not exist."""
        if word == "value":
            return item_or_zero(self.presets, at)
        if word == "load":
            return item_or_zero(self.storage, at)
        if not self.is_point(at):
            return 0
        points = self.current if word == "get" else self.original
        return points[at][self.looking]

    def work(self, word, number, values):
        """Do an instruction that puts nothing and leads nowhere else."""
        if word == "look":
            self.looking = number % 2
        elif word == "go":
            self.going = number % 2
        elif word == "mode":
            self.mode = number % MODES
        elif word == "setvalue":
            self.write_preset(values[0], values[1])
        elif word == "save":
            self.write_storage(values[0], values[1])
        elif word == "move":
            self.move_point(values[0], values[1])
        elif word == "set":
            self.set_point(values[0], values[1])
        elif word == "align":
            self.align_point(values[0], values[1])
        elif word == "between":
            self.place_between(number % 2)

    def write_preset(self, at, n):
        """Give a preset another number, if it exists."""
        if 0 <= at < len(self.presets):
            self.presets[at] = n

    def write_storage(self, at, n):
        """Give a place of storage another number, if it exists."""
        if 0 <= at < len(self.storage):
            self.storage[at] = n

    def is_point(self, p):
        """Return True if there is a point with the number."""
        return 0 <= p < len(self.current)

    def move_point(self, p, distance):
        """Add a distance to a point's coordinate, and touch it there."""
        if self.is_point(p):
            self.place_point(p, self.going, self.current[p][self.going] + distance)
            self.touch_point(p, self.going)

    def set_point(self, p, n):
        """Give a point another coordinate, and touch it there, if both axes are the same."""
        if self.is_point(p) and self.looking == self.going:
            self.place_point(p, self.going, n)
            self.touch_point(p, self.going)

    def align_point(self, p, q):
        """Give the point q the coordinate of the point p, as set_point does."""
        if self.is_point(p):
            self.set_point(q, self.current[p][self.looking])

    def place_between(self, axis):
        """Place the points between touched points along an axis."""
        placed = placed_between(self.original, self.current, self.touched, self.ends, axis)
        for p, n in placed.items():
            self.place_point(p, axis, n)

    def place_point(self, p, axis, n):
        """Give a point another coordinate along an axis."""
        x, y = self.current[p]
        self.current[p] = (kept(n), y) if axis == 0 else (x, kept(n))

    def touch_point(self, p, axis):
        """Touch a point along an axis."""
        if not is_touched(self.touched[p], axis):
            self.touched[p] += axis + 1


class Visit:
    """A list of instructions that is being done, with the place in it and how often it is done from now on."""

    def __init__(self, code, rounds):
        self.code = code
        self.at = 0
        self.rounds = rounds

    def is_at_the_end(self):
        """Return True if no instruction of the list is left."""
        return self.at == len(self.code)


class Machine:
    """A hint machine that does a program on a zone. It has ended when it visits nothing, or has an error."""

    def __init__(self, program, zone):
        self.ground = Ground(program, zone)
        self.functions = [kept_code(function) for function in program.functions]
        self.visits = [Visit(kept_code(program.main), 1)]
        self.stack = []
        self.steps = 0
        self.peak = 0
        self.error = None
        self.leave_what_is_done()

    def step(self):
        """Do a step; return False if the machine had ended, or ends with an error."""
        if self.has_ended():
            return False
        self.error = self.fault()
        if self.error is not None:
            return False
        visit = self.visits[-1]
        word, number = visit.code[visit.at]
        visit.at += 1
        bottom = len(self.stack) - WORDS[word][0]
        values = self.stack[bottom:]
        self.stack = self.stack[:bottom] + self.values_put(word, number, values)
        self.steps += 1
        self.peak = max(self.peak, len(self.stack))
        self.leave_what_is_done()
        return True

    def outcome(self):
        """Return the outcome at this moment."""
        return Outcome(self.ground, self.stack, self.steps, self.peak, self.error)

    def has_ended(self):
        """Return True if the machine has ended, with or without an error."""
        return self.error is not None or len(self.visits) == 0

    def fault(self):
        """Return why the next instruction is impossible, or None."""
        visit = self.visits[-1]
        word, number = visit.code[visit.at]
        if word not in WORDS:
            return "word"
        takes, puts = WORDS[word]
        if len(self.stack) < takes or len(self.stack) - takes + puts > MOST_VALUES:
            return "stack"
        if word in JUMPS and not 0 <= number < len(visit.code) - visit.at:
            return "jump"
        # The first visit is main, which nothing has called.
        if word in CALLS and (not 0 <= number < len(self.functions) or len(self.visits) > MOST_CALLS):
            return "call"
        return None

    def values_put(self, word, number, values):
        """Do an instruction, whose values have been taken; return the values that it puts."""
        if word == "push":
            return [number]
        if word == "copy":
            return values + values
        if word == "swap":
            return values[::-1]
        if WORDS[word][1] == 1:
            return [self.ground.number_put(word, values)]
        if word in JUMPS:
            self.jump(word, number, values)
        elif word in CALLS:
            self.call(word, number, values)
        else:
            self.ground.work(word, number, values)
        return []

    def jump(self, word, number, values):
        """Skip instructions, for jumpzero only if its value is 0."""
        visit = self.visits[-1]
        if word == "jump" or values[0] == 0:
            visit.at += number

    def call(self, word, number, values):
        """Begin a function, which for repeat is done as often as its value says."""
        rounds = 1 if word == "call" else min(values[0], MOST_ROUNDS)
        if rounds > 0:
            self.visits.append(Visit(self.functions[number], rounds))

    def leave_what_is_done(self):
        """Leave the lists of instructions at whose end the machine is, or begin them again."""
        while self.visits and self.visits[-1].is_at_the_end():
            visit = self.visits[-1]
            visit.rounds -= 1
            visit.at = 0
            if visit.rounds == 0:
                self.visits.pop()


def run_program(program, zone, steps):
    """Return the outcome after as many steps as there are, at most so many."""
    machine = Machine(program, zone)
    while machine.steps < steps and machine.step():
        pass
    outcome = machine.outcome()
    if not machine.has_ended():
        outcome.error = machine.fault() or "steps"
    return outcome


def rounded(mode, n):
    """Return the kept number, rounded by a mode from 0 to 5, and kept."""
    return kept(rounded_exactly(mode, kept(n)))


def kept(n):
    """Return the number from -2147483648 to 2147483647 that differs by a multiple of 4294967296."""
    return (n - LEAST_NUMBER) % MANY_NUMBERS + LEAST_NUMBER


def kept_pairs(points):
    """Return a new list of the points, with kept coordinates."""
    return [(kept(x), kept(y)) for x, y in points]


def kept_code(code):
    """Return a new list of the instructions, with kept numbers."""
    return [(word, kept(number)) for word, number in code]


def item_or_zero(row, at):
    """Return the item with an index, or 0 if there is none; a negative index is none."""
    return row[at] if 0 <= at < len(row) else 0
