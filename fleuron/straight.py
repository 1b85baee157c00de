"""Straight code: hint programs with registers instead of a stack, and without jumps backwards."""

from fleuron.bounds import judge_tables, make_tables
from fleuron.errors import TooLarge
from fleuron.machine import MOST_ROUNDS, MOST_VALUES, Ground, Outcome, kept, kept_code
from fleuron.words import CALLS, JUMPS, WORDS

REGISTERS = 64
MOST_INSTRUCTIONS = 20000
MOST_STEPS = 2000
MOST_SIZE = 2000
SPARE = 63
SKIPPING = ("jump", "jumpzero", "jumpsmall")
# What stands behind the words that straight code alone has, or has in another form than the machine; a place is the
# number of a register, and many are as many registers.
FORMS = {
    "push": ("place", "number"), "size": ("place",), "take": ("place", "place"),
    "jump": ("skip",), "jumpzero": ("place", "skip"), "jumpsmall": ("place", "number", "skip"),
    "end": ("many",),
}
# What stands behind the other words, by how many values they take and put.
FORMS_BY_VALUES = {
    (1, 1): ("place", "place"), (2, 1): ("place", "place", "place"),
    (2, 0): ("place", "place"), (0, 0): ("number",),
}


def build_code(program):
    """Return straight code that leaves what the machine leaves."""
    tables = checked_tables(program)
    builder = Builder(program, tables)
    whole = builder.block(kept_code(program.main), tables[-1], 0, 0)
    return whole + [("end", tables[-1][-1][0])]


def checked_tables(program):
    """Return the least tables of a program for which straight code is built; raise what building raises."""
    tables = make_tables(program)
    if judge_tables(program, tables)[3] > MOST_STEPS:
        raise TooLarge("steps")
    if size_of(program, tables) > MOST_SIZE:
        raise TooLarge("size")
    return tables


def size_of(program, tables):
    """Return the size of main."""
    sizes = []
    for code, table in zip(program.functions + [program.main], tables):
        total = 0
        for (word, number), item in zip(kept_code(code), table):
            if item is not None:
                total += 1
                if word in CALLS:
                    total += sizes[number] * (MOST_ROUNDS if word == "repeat" else 1)
        sizes.append(total)
    return sizes[-1]


class Builder:
    """Writes the functions of a program out where they are called.

    The value on the stack with n values below it is in register n. Behind the registers of the stack stand those of
    the counters, one for each repeated function in which another one is repeated.
    """

    def __init__(self, program, tables):
        self.functions = [kept_code(code) for code in program.functions]
        self.tables = list(tables)

    def block(self, code, table, base, repeated):
        """Return the straight code of a list of instructions that begins with as many values as base says."""
        chunks = []
        for (word, number), item in zip(code, table):
            if item is None:
                chunks.append([])
            elif word == "call":
                chunks.append(self.called(number, base + item[0], repeated))
            elif word == "repeat":
                chunks.append(self.in_rounds(number, base + item[0] - 1, repeated))
            else:
                chunks.append(chunk_of(word, number, base + item[0]))
        return chunks_in_order(code, chunks)

    def called(self, number, base, repeated):
        """Return the straight code of a function."""
        return self.block(self.functions[number], self.tables[number], base, repeated)

    def in_rounds(self, number, base, repeated):
        """Return the straight code of a repeated function, for the value that is in the register of the base."""
        body = self.called(number, base, repeated + 1)
        # The function writes over the register of the value, so a counter keeps it.
        counter = MOST_VALUES + repeated
        whole = [("take", counter, base)]
        for done in range(MOST_ROUNDS):
            later = (MOST_ROUNDS - done - 1) * (1 + len(body))
            whole.append(("jumpsmall", counter, done, len(body) + later))
            whole.extend(body)
        return whole


def chunk_of(word, number, height):
    """Return the straight code of an instruction that calls nothing; skips are those of the instruction itself."""
    takes, puts = WORDS[word]
    bottom = height - takes
    values = tuple(range(bottom, height))
    if word == "drop":
        return []
    if word == "push":
        return [("push", bottom, number)]
    if word == "copy":
        return [("take", height, bottom)]
    if word == "swap":
        return [("take", SPARE, bottom), ("take", bottom, bottom + 1), ("take", bottom + 1, SPARE)]
    if puts == 1:
        return [(word, bottom) + values]
    if takes == 2:
        return [(word,) + values]
    return [(word,) + values + (number,)]


def chunks_in_order(code, chunks):
    """Return the chunks one behind the other, with jumps that skip the chunks of the skipped instructions."""
    starts = [0]
    for chunk in chunks:
        starts.append(starts[-1] + len(chunk))
    whole = []
    for at, chunk in enumerate(chunks):
        word, number = code[at]
        if chunk and word in JUMPS:
            whole.append(chunk[0][:-1] + (starts[at + 1 + number] - starts[at + 1],))
        else:
            whole.extend(chunk)
    return whole


def is_code(code):
    """Return True if the list of tuples is correct straight code."""
    if not 1 <= len(code) <= MOST_INSTRUCTIONS:
        return False
    last = len(code) - 1
    for at, step in enumerate(code):
        if not is_formed(step) or (step[0] == "end") != (at == last):
            return False
        if step[0] in SKIPPING and step[-1] > last - at - 1:
            return False
    return True


def is_formed(step):
    """Return True if the tuple is an instruction of straight code."""
    if not step or not isinstance(step[0], str):
        return False
    form = form_of(step[0])
    if form is None or len(step) != 1 + len(form):
        return False
    return all([is_argument(n, kind) for n, kind in zip(step[1:], form)])


def form_of(word):
    """Return what stands behind a word of straight code, or None if it is none."""
    if word in FORMS:
        return FORMS[word]
    if word not in WORDS or word in CALLS:
        return None
    return FORMS_BY_VALUES.get(WORDS[word])


def is_argument(n, kind):
    """Return True if n can stand where an argument of the kind stands."""
    if not isinstance(n, int) or isinstance(n, bool):
        return False
    if kind == "place":
        return 0 <= n < REGISTERS
    if kind == "many":
        return 0 <= n <= REGISTERS
    return kind == "number" or n >= 0


class Board:
    """The registers, and all else on which straight code works."""

    def __init__(self, program, zone):
        self.ground = Ground(program, zone)
        self.registers = [0] * REGISTERS

    def do(self, step):
        """Do an instruction; return how many of the next ones are skipped."""
        word = step[0]
        if word in SKIPPING:
            return self.skipped(step)
        if word in ("push", "size", "take") or WORDS[word][1] == 1:
            self.registers[step[1]] = self.number_for(step)
        elif WORDS[word][0] == 2:
            self.ground.work(word, 0, self.numbers_in(step[1:]))
        else:
            self.ground.work(word, kept(step[1]), [])
        return 0

    def skipped(self, step):
        """Return how many instructions a jump skips."""
        if step[0] == "jumpzero" and self.registers[step[1]] != 0:
            return 0
        if step[0] == "jumpsmall" and self.registers[step[1]] > step[2]:
            return 0
        return step[-1]

    def number_for(self, step):
        """Return the number that the first register of an instruction gets."""
        if step[0] == "push":
            return kept(step[2])
        if step[0] == "take":
            return self.registers[step[2]]
        return self.ground.number_put(step[0], self.numbers_in(step[2:]))

    def numbers_in(self, registers):
        """Return the numbers in the registers."""
        return [self.registers[a] for a in registers]


def run_code(code, program, zone):
    """Return the outcome of correct straight code."""
    board = Board(program, zone)
    at = steps = 0
    while code[at][0] != "end":
        at += 1 + board.do(code[at])
        steps += 1
    return Outcome(board.ground, board.registers[:code[at][1]], steps, 0, None)
