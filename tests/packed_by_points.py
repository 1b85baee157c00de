"""The coder of points 78 to 80, written a second time, to compare with: low is one integer of any size."""

WHOLE = 2 ** 32


def digits_by_points(n):
    """Return the digits of an integer."""
    m = 2 * n if n >= 0 else -2 * n - 1
    digits = [m % 64]
    while m >= 64:
        m //= 64
        digits.append(m % 64)
    return [digit + 64 for digit in digits[:-1]] + digits[-1:]


class Slow:
    """A coder whose carries happen by themselves."""

    def __init__(self):
        self.low, self.width, self.many = 0, WHOLE, 0
        self.tables = [[1] * 128, [1] * 128]
        # The sums of counts that were near to those that are made half.
        self.sums = []

    def write(self, n):
        """Write a number."""
        for place, digit in enumerate(digits_by_points(n)):
            self.write_digit(digit, min(place, 1))

    def write_digit(self, digit, which):
        """Write a digit by one of the tables."""
        table = self.tables[which]
        step = self.width // sum(table)
        self.low += step * sum(table[:digit])
        self.width = step * table[digit]
        while self.width < 2 ** 24:
            self.low, self.width, self.many = self.low * 256, self.width * 256, self.many + 1
        table[digit] += 24
        if sum(table) > 16380:
            self.sums.append(sum(table))
        if sum(table) > 16384:
            self.tables[which] = [(count + 1) // 2 for count in table]

    def packed(self):
        """Return the packed list."""
        return list(self.low.to_bytes(self.many + 4, "big"))


def packed_by_points(numbers):
    """Return the packed list of the numbers of a font."""
    coder = Slow()
    for n in numbers:
        coder.write(n)
    return coder.packed()
