"""Codes: drawings as lists of integers from 0 to 255."""

from copyarms.drawings import MOST_SPOTS, MOST_STROKES, Drawing
from copyarms.errors import InvalidCode
from copyarms.spots import is_spot, is_whole

FIRST_ITEM = 67
BASE = 256
MOST_DIGITS = 8


class Reader:
    """Reads the items of a code one after another."""

    def __init__(self, code):
        self.code = code
        self.at = 0

    def item(self, least, most):
        """The next item, which must be an integer from least to most."""
        if self.at == len(self.code):
            raise InvalidCode(self.at)
        found = self.code[self.at]
        if not is_whole(found) or not least <= found <= most:
            raise InvalidCode(self.at)
        self.at += 1
        return found


def encode(drawing):
    """A drawing as a list of integers."""
    code = [FIRST_ITEM, len(drawing.strokes)]
    for stroke in drawing.strokes:
        code.append(len(stroke))
        for spot in stroke:
            for number in spot:
                code.extend(number_items(number))
    return [*code, checksum(code)]


def decode(items):
    """The drawing of a list of integers."""
    reader = Reader(items)
    reader.item(FIRST_ITEM, FIRST_ITEM)
    count = reader.item(0, MOST_STROKES)
    strokes = [read_stroke(reader) for number in range(count)]
    right = checksum(items[:reader.at])
    reader.item(right, right)
    if reader.at < len(items):
        raise InvalidCode(reader.at)
    return Drawing(*strokes)


def checksum(code):
    """The checksum of all items before it."""
    total = 0
    for item in code:
        total = (7 * total + item) % 251
    return total


def number_items(number):
    """A list of the sign of a number, how many digits it has, and these, the highest one first."""
    digits = []
    rest = abs(number)
    while rest > 0:
        digits.append(rest % BASE)
        rest = rest // BASE
    digits.reverse()
    return [1 if number < 0 else 0, len(digits), *digits]


def read_stroke(reader):
    """The next stroke, a tuple of spots."""
    count = reader.item(1, MOST_SPOTS)
    return tuple([read_spot(reader) for number in range(count)])


def read_spot(reader):
    """The next spot."""
    start = reader.at
    x = read_number(reader)
    y = read_number(reader)
    d = read_divisor(reader)
    if not is_spot((x, y, d)):
        raise InvalidCode(start)
    return x, y, d


def read_number(reader):
    """The next number of a spot, its first or second one."""
    sign = reader.item(0, 1)
    size = read_digits(reader, sign)
    return -size if sign == 1 else size


def read_divisor(reader):
    """The next number of a spot, its third one, which is positive."""
    reader.item(0, 0)
    return read_digits(reader, 1)


def read_digits(reader, fewest):
    """The next digits, at least so many, behind their number."""
    count = reader.item(fewest, MOST_DIGITS)
    size = 0
    for place in range(count):
        size = size * BASE + reader.item(1 if place == 0 else 0, BASE - 1)
    return size
