"""Scripts: texts whose rows tell arms and drawings, copy drawings and join them."""

from copyarms.arms import Arm
from copyarms.chains import Chain
from copyarms.drawings import Drawing
from copyarms.errors import (
    BadRow, BadText, InvalidReach, InvalidStroke, InvalidTurn, OutOfReach, TooMany, UnknownName)
from copyarms.names import is_name
from copyarms.notation import first_wrong_word, is_numeral, spot_from, strokes_from

FEWEST_WORDS = {"arm": 6, "copy": 4, "join": 4}
MOST_LETTERS = 6
MOST_REACH_DIGITS = 4


class Script:
    """A text of rows that are executed when it is created."""

    def __init__(self, text):
        self.written = text
        self.rows = [row.split(" ") for row in text.split("\n")]
        check_rows(self.rows)
        self.places = {}
        self.told_arms = {}
        self.told_drawings = {}
        for number in range(len(self.rows)):
            self.execute(number)

    @property
    def text(self):
        """The text."""
        return self.written

    @property
    def names(self):
        """A new list of the names of all drawings, in order."""
        return list(self.told_drawings)

    @property
    def arm_names(self):
        """A new list of the names of all arms, in order."""
        return list(self.told_arms)

    def __len__(self):
        return len(self.rows)

    def drawing(self, name):
        """The drawing of a name."""
        return known(self.told_drawings, name)

    def needs(self, name):
        """The ascending list of the indexes of all rows that are needed for a drawing."""
        known(self.told_drawings, name)
        last = self.places[name]
        needed = {last: True}
        # A row needs only earlier ones, so backwards each one is known to be needed when it comes.
        for number in range(last, -1, -1):
            if number in needed:
                for other in names_needed(self.rows[number]):
                    needed[self.places[other]] = True
        return sorted(list(needed))

    def needed_text(self, name):
        """The text of just the rows that are needed for a drawing."""
        return "\n".join([" ".join(self.rows[number]) for number in self.needs(name)])

    def execute(self, number):
        """Execute a row, or raise BadRow with the first reason why it cannot be."""
        words = self.rows[number]
        if words[1] in self.places:
            raise BadRow(number, "taken")
        try:
            self.tell(words)
        except InvalidTurn:
            raise BadRow(number, "turn") from None
        except InvalidReach:
            raise BadRow(number, "reach") from None
        except UnknownName:
            raise BadRow(number, "name") from None
        except InvalidStroke:
            raise BadRow(number, "stroke") from None
        except TooMany:
            raise BadRow(number, "many") from None
        except OutOfReach:
            raise BadRow(number, "out") from None
        self.places[words[1]] = number

    def tell(self, words):
        """Keep the arm or the drawing that a row tells under its name."""
        if words[0] == "arm":
            self.told_arms[words[1]] = arm_from(words)
        elif words[0] == "ink":
            self.told_drawings[words[1]] = drawing_from(words)
        elif words[0] == "copy":
            self.told_drawings[words[1]] = copied_by(words, self.told_drawings, self.told_arms)
        else:
            self.told_drawings[words[1]] = joined_by(words, self.told_drawings)


def check_rows(rows):
    """Raise BadText for the first word of all rows that is wrong, superfluous or missing."""
    for number, words in enumerate(rows):
        wrong = first_wrong_in_ink(words) if words[0] == "ink" else first_wrong(words)
        if wrong is not None:
            raise BadText(number, wrong)


def first_wrong(words):
    """The index of the first word of a row, not of ink, that is wrong, superfluous or missing, or None."""
    for at, word in enumerate(words):
        if not can_stand(words[0], at, word):
            return at
    return len(words) if len(words) < FEWEST_WORDS[words[0]] else None


def can_stand(kind, at, word):
    """Whether a word can stand at a place of a row of a kind."""
    if at == 0:
        return word in FEWEST_WORDS
    if at == 1 or kind != "arm":
        return is_name(word, MOST_LETTERS)
    if at <= 3:
        return spot_from(word) is not None
    if at <= 5:
        return is_numeral(word, MOST_REACH_DIGITS)
    return at == 6 and word == "mirrored"


def first_wrong_in_ink(words):
    """The index of the first word of a row of ink that is wrong or missing, or None."""
    if len(words) == 1 or not is_name(words[1], MOST_LETTERS):
        return 1
    wrong = first_wrong_word(words[2:])
    return None if wrong is None else wrong + 2


def known(told, name):
    """What is told under a name."""
    if name not in told:
        raise UnknownName("there is nothing of this name")
    return told[name]


def names_needed(words):
    """The names of the drawings and the arms that a row needs."""
    return words[2:] if words[0] in ("copy", "join") else []


def arm_from(words):
    """The arm that a row tells."""
    return Arm(spot_from(words[2]), spot_from(words[3]), int(words[4]), int(words[5]), mirrored=len(words) == 7)


def drawing_from(words):
    """The drawing that a row of ink tells."""
    strokes = strokes_from(words[2:])
    return Drawing(*strokes)


def copied_by(words, told_drawings, told_arms):
    """The drawing that the chain of a row draws."""
    source = known(told_drawings, words[2])
    arms = [known(told_arms, name) for name in words[3:]]
    chain = Chain(*arms)
    return chain.draw(source)


def joined_by(words, told_drawings):
    """The drawing with the strokes of all drawings of a row."""
    parts = [known(told_drawings, name) for name in words[2:]]
    strokes = [stroke for part in parts for stroke in part.strokes]
    return Drawing(*strokes)
