"""Texts of drawings, and pictures of what they cover.

The functions that take words apart are shared with the scripts, whose rows have such words, too.
"""

from copyarms.drawings import Drawing, is_covered
from copyarms.errors import BadText
from copyarms.spots import check_limit, is_spot

DIGITS = "0123456789"
MOST_DIGITS = 9
BLOCK = 10 ** 18
BLOCK_DIGITS = 18


def format_drawing(drawing):
    """The text of a drawing."""
    return " / ".join([" ".join([word_of(spot) for spot in stroke]) for stroke in drawing.strokes])


def parse_drawing(text):
    """The drawing of a text."""
    if text == "":
        return Drawing()
    words = text.split(" ")
    wrong = first_wrong_word(words)
    if wrong is not None:
        raise BadText(0, wrong)
    strokes = strokes_from(words)
    return Drawing(*strokes)


def picture(drawing, limit):
    """A picture of the whole spots up to a limit, the highest ones first."""
    check_limit(limit)
    ink = drawing.ink()
    numbers = list(range(-limit, limit + 1))
    return "\n".join(["".join([sign_at((x, y, 1), ink) for x in numbers]) for y in numbers[::-1]])


def sign_at(spot, ink):
    """The sign of a picture for a spot."""
    return "#" if is_covered(spot, ink) else "."


def word_of(spot):
    """The word of a spot."""
    numbers = spot[:2] if spot[2] == 1 else spot
    return ",".join([numeral(number) for number in numbers])


def numeral(number):
    """The digits of a number of any length, after a minus sign if it is negative."""
    blocks = []
    rest = abs(number)
    # Python writes out no number of more than a few thousand digits at once.
    while rest >= BLOCK:
        blocks.append(str(rest % BLOCK).zfill(BLOCK_DIGITS))
        rest = rest // BLOCK
    blocks.append(str(rest))
    return ("-" if number < 0 else "") + "".join(blocks[::-1])


def is_numeral(word, most):
    """Whether a word is one digit up to so many, without leading zeros."""
    if not 1 <= len(word) <= most or not all([sign in DIGITS for sign in word]):
        return False
    return word == "0" or word[0] != "0"


def number_from(word):
    """The number that a word tells, or None if the word is wrong."""
    if word == "-0" or not is_numeral(word.removeprefix("-"), MOST_DIGITS):
        return None
    return int(word)


def spot_from(word):
    """The spot that a word tells, or None if the word is wrong."""
    numbers = [number_from(part) for part in word.split(",")]
    if None in numbers:
        return None
    if len(numbers) == 2:
        return numbers[0], numbers[1], 1
    spot = tuple(numbers)
    # A third number 1 is left out in a word.
    return spot if is_spot(spot) and spot[2] != 1 else None


def first_wrong_word(words):
    """The index of the first wrong word in the text of a drawing with at least one stroke, or None.

    If a spot is missing at the end, that is the number of words.
    """
    is_spot_next = True
    for index, word in enumerate(words):
        if word == "/" and not is_spot_next:
            is_spot_next = True
        elif spot_from(word) is None:
            return index
        else:
            is_spot_next = False
    return len(words) if is_spot_next else None


def strokes_from(words):
    """A list of the strokes that words tell, none of which is wrong."""
    strokes = []
    spots = []
    for word in [*words, "/"]:
        if word == "/":
            strokes.append(tuple(spots))
            spots = []
        else:
            spots.append(spot_from(word))
    return strokes
