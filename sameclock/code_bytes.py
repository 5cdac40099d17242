"""Machine code as bytes (points 6.7 and 6.8)."""

from sameclock.code_form import CODE_FORMS, REGISTERS, is_code
from sameclock.errors import BadBytes
from sameclock.ir import SIGNS
from sameclock.limits import GREATEST_BASE, GREATEST_SIZE, MOST_REGIONS, MOST_ROWS

WORDS = ("const", "op", "select", "load", "store", "out", "jump", "branch", "stop")
LABELS = ("public", "secret")
GREATEST_DIGITS = 12


def write_bytes(code):
    """Returns the list of the bytes of some code."""
    regions, rows = code
    found = _count(len(regions))
    for _, size, label in regions:
        found.extend(_count(size) + [LABELS.index(label)])
    found.extend(_count(len(rows)))
    for row in rows:
        found.append(WORDS.index(row[0]))
        for part, kind in zip(row[1:], CODE_FORMS[row[0]]):
            found.extend(_part(part, kind))
    return found


def _count(number):
    found = []
    left = number
    while left > 127:
        found.append(128 + (left & 127))
        left = left >> 7
    return found + [left]


def _part(part, kind):
    if kind == "write" or kind == "read":
        return [part]
    if kind == "sign":
        return [SIGNS.index(part)]
    if kind == "word":
        return [part & 255, (part >> 8) & 255, (part >> 16) & 255, part >> 24]
    if kind == "mask":
        return [part.bit_length()]
    return _count(part)


def read_bytes(row):
    """Returns the code of a list of bytes; raises BadBytes."""
    reading = Reading(row)
    regions = []
    base = 0
    for _ in range(reading.number(MOST_REGIONS)):
        size = reading.number(GREATEST_SIZE)
        regions.append((base, size, LABELS[reading.byte(1)]))
        base += size
    many = reading.number(MOST_ROWS)
    code = (tuple(regions), tuple([reading.row(many) for _ in range(many)]))
    if reading.at != len(row) or not is_code(code):
        raise BadBytes()
    return code


class Reading:
    """A list of bytes, and the place up to which it is read."""

    def __init__(self, row):
        self.numbers = row
        self.at = 0

    def byte(self, most):
        """The next byte, which is not greater than this."""
        if self.at >= len(self.numbers) or self.numbers[self.at] > most:
            raise BadBytes()
        self.at += 1
        return self.numbers[self.at - 1]

    def number(self, most):
        """The next count, which is not greater than this."""
        found = 0
        digit = self.byte(255)
        place = 1
        while digit >= 128:
            found += (digit - 128) * place
            place *= 128
            # A count that goes on is at least as great as this, since its last byte is not 0.
            if place > most:
                raise BadBytes()
            digit = self.byte(255)
            if digit == 0:
                raise BadBytes()
        found += digit * place
        if found > most:
            raise BadBytes()
        return found

    def row(self, many):
        """The next row of code that has so many rows."""
        word = WORDS[self.byte(len(WORDS) - 1)]
        return tuple([word] + [self.part(kind, many) for kind in CODE_FORMS[word]])

    def part(self, kind, many):
        """The next part of a row."""
        if kind == "write" or kind == "read":
            return self.byte(REGISTERS - 1)
        if kind == "sign":
            return SIGNS[self.byte(len(SIGNS) - 1)]
        if kind == "word":
            low = self.byte(255) + 256 * self.byte(255)
            return low + 65536 * (self.byte(255) + 256 * self.byte(255))
        if kind == "mask":
            return (1 << self.byte(GREATEST_DIGITS)) - 1
        return self.number(GREATEST_BASE if kind == "base" else many - 1)
