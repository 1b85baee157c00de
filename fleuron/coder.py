"""The coder of packed fonts: digits into numbers from 0 to 255, and back."""

from fleuron.errors import InvalidPacking

DIGITS = 128
GROWTH = 24
MOST_TOTAL = 16384
WHOLE = 4294967296
LEAST_WIDTH = 16777216
BYTE = 256
LAST_NUMBERS = 4


class Counts:
    """How often each digit has been written or read, in a way."""

    def __init__(self):
        self.counts = [1] * DIGITS
        self.total = DIGITS

    def before(self, digit):
        """Return the sum of the counts of the lesser digits."""
        return sum(self.counts[:digit])

    def own(self, digit):
        """Return the count of a digit."""
        return self.counts[digit]

    def digit_at(self, place):
        """Return the greatest digit the sum of whose lesser ones' counts is at most the place, below the total."""
        digit = 0
        behind = self.counts[0]
        while behind <= place:
            digit += 1
            behind += self.counts[digit]
        return digit

    def grow(self, digit):
        """Let the count of a digit grow, and all become smaller when there are many."""
        self.counts[digit] += GROWTH
        self.total += GROWTH
        if self.total > MOST_TOTAL:
            self.counts = [(count + 1) // 2 for count in self.counts]
            self.total = sum(self.counts)


class Coder:
    """Writes digits."""

    def __init__(self):
        self.low = 0
        self.width = WHOLE
        self.given = []
        self.first = Counts()
        self.later = Counts()

    def write(self, digits):
        """Write the digits of a number."""
        self.write_digit(digits[0], self.first)
        for digit in digits[1:]:
            self.write_digit(digit, self.later)

    def write_digit(self, digit, counts):
        """Write a digit by a table of counts."""
        step = self.width // counts.total
        self.low += step * counts.before(digit)
        self.width = step * counts.own(digit)
        while self.width < LEAST_WIDTH:
            self.give_out()
            self.width *= BYTE
        counts.grow(digit)

    def give_out(self):
        """Append a number to the list."""
        if self.low >= WHOLE:
            self.low -= WHOLE
            self.carry()
        self.given.append(self.low // LEAST_WIDTH)
        self.low = self.low % LEAST_WIDTH * BYTE

    def carry(self):
        """Add 1 to the last number of the list, and to those before it as far as they become too great."""
        at = len(self.given) - 1
        while self.given[at] == BYTE - 1:
            self.given[at] = 0
            at -= 1
        self.given[at] += 1

    def ended(self):
        """Return the whole list; nothing is written any more."""
        for _ in range(LAST_NUMBERS):
            self.give_out()
        return list(self.given)


class Decoder:
    """Reads digits. What stands behind the last number is never read."""

    def __init__(self, numbers):
        self.numbers = list(numbers)
        self.at = 0
        # How far the numbers that have been taken are above the coder's low.
        self.value = 0
        self.width = WHOLE
        self.first = Counts()
        self.later = Counts()
        for _ in range(LAST_NUMBERS):
            self.take()

    def take(self):
        """Take the next number of the list."""
        if self.at == len(self.numbers):
            raise InvalidPacking()
        self.value = self.value * BYTE + self.numbers[self.at]
        self.at += 1

    def read_first(self):
        """Return the first digit of a number."""
        return self.read_digit(self.first)

    def read_later(self):
        """Return a later digit of a number."""
        return self.read_digit(self.later)

    def read_digit(self, counts):
        """Return a digit, read by a table of counts."""
        step = self.width // counts.total
        place = self.value // step
        if place >= counts.total:
            raise InvalidPacking()
        digit = counts.digit_at(place)
        self.value -= step * counts.before(digit)
        self.width = step * counts.own(digit)
        while self.width < LEAST_WIDTH:
            self.take()
            self.width *= BYTE
        counts.grow(digit)
        return digit
