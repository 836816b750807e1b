"""Points 21 and 22: texts of drawings, and pictures."""

import itertools
import random
import unittest

from copyarms.drawings import Drawing
from copyarms.errors import BadText, InvalidSize, InvalidStroke, TooMany
from copyarms.names import is_name
from copyarms.notation import format_drawing, parse_drawing, picture
from tests.exact import HUGE, MIDDLE, NO_NUMBERS, ONE, at, line


def wrong_word(text):
    """The place that BadText tells, a tuple of the row and the word."""
    try:
        parse_drawing(text)
    except BadText as error:
        return error.row, error.word
    return None


RIGHT_WORDS = {
    "0,0": (0, 0, 1), "3,-4": (3, -4, 1), "-3,4": (-3, 4, 1), "1,0,2": (1, 0, 2), "-1,-1,2": (-1, -1, 2),
    "4,6": (4, 6, 1), "4,6,3": (4, 6, 3), "0,1,2": (0, 1, 2), "10,200": (10, 200, 1),
    "999999999,-999999999": (999999999, -999999999, 1), "123456789,1,987654321": (123456789, 1, 987654321),
    "1,1,999999999": (1, 1, 999999999), "6,10,15": (6, 10, 15), "-100000000,1,10": (-100000000, 1, 10),
}
WRONG_WORDS = [
    "", "a", "1", "1,", ",1", ",", ",,", "1,2,", ",1,2", "1,,2", "1,2,3,4", "1,2,3,",
    "1000000000,0", "0,1000000000", "0,-1000000000", "1,0,1000000000", "1,2,1234567890", "0000000001,2",
    "01,2", "2,01", "00,1", "1,00", "-01,2", "1,-02", "1,1,02", "1,1,002",
    "-0,1", "1,-0", "-0,-0", "1,1,-0",
    "1,2,0", "0,0,0", "1,2,1", "0,0,1", "1,2,-1", "1,2,-3",
    "2,4,2", "0,0,2", "2,2,2", "3,6,9", "0,5,5", "-2,4,6", "0,0,999999999",
    "+1,2", "1,+2", "--1,2", "1-,2", "-,1", "1,-", "1.0,2", "1_0,2", "0x1,2", "1,2\n", "\t1,2", "1,2\t", "1;2",
    "(1,2)", "1,2,x", "\u0661,2", "1,\u00b2", "\uff11,2", "//", "/1,2", "1,2/", "-/",
]


class SpotWords(unittest.TestCase):
    def test_right_ones(self):
        for word, spot in RIGHT_WORDS.items():
            self.assertEqual(parse_drawing(word).strokes, ((spot,),), word)
            self.assertEqual(format_drawing(Drawing((spot,))), word)

    def test_wrong_ones(self):
        for word in WRONG_WORDS[1:]:
            self.assertEqual(wrong_word(word), (0, 0), word)

    def test_wrong_ones_at_other_places(self):
        for word in WRONG_WORDS:
            self.assertEqual(wrong_word(f"0,0 {word}"), (0, 1), word)
            self.assertEqual(wrong_word(f"{word} 0,0"), (0, 0), word)
            self.assertEqual(wrong_word(f"0,0 / {word} / 1,1"), (0, 2), word)
            self.assertEqual(wrong_word(f"0,0 1,1 {word} x"), (0, 2), word)

    def test_all_short_words(self):
        """By taking each word apart in another way: as what `format_drawing` returns for the spot that it must be."""
        for length in range(1, 6):
            for signs in itertools.product("012-,", repeat=length):
                word = "".join(signs)
                try:
                    numbers = [int(part) for part in word.split(",")]
                    spot = tuple(numbers if len(numbers) == 3 else numbers + [1])
                    expected = Drawing((spot,)) if len(spot) == 3 else None
                except ValueError:
                    expected = None
                if expected is not None and format_drawing(expected) == word:
                    self.assertEqual(parse_drawing(word), expected, word)
                else:
                    self.assertEqual(wrong_word(word), (0, 0), word)


class DrawingTexts(unittest.TestCase):
    def test_the_empty_text(self):
        self.assertEqual(parse_drawing(""), Drawing())
        self.assertEqual(format_drawing(Drawing()), "")

    def test_strokes(self):
        self.assertEqual(parse_drawing("0,0 1,-3,2 / 5,5").strokes, ((MIDDLE, (1, -3, 2)), (at(5, 5),)))
        self.assertEqual(parse_drawing("1,0 / 1,0 / 1,0").strokes, ((ONE,),) * 3)
        self.assertEqual(parse_drawing("0,0 1,0 0,0").strokes, (line((0, 0), (1, 0), (0, 0)),))

    def test_format(self):
        self.assertEqual(format_drawing(Drawing((MIDDLE, (1, -3, 2)), (at(5, 5),))), "0,0 1,-3,2 / 5,5")
        self.assertEqual(format_drawing(Drawing((ONE,), (ONE,))), "1,0 / 1,0")

    def test_strokes_marks_at_the_wrong_place(self):
        self.assertEqual(wrong_word("/"), (0, 0))
        self.assertEqual(wrong_word("/ 0,0"), (0, 0))
        self.assertEqual(wrong_word("/ /"), (0, 0))
        self.assertEqual(wrong_word("0,0 / / 1,1"), (0, 2))
        self.assertEqual(wrong_word("0,0 1,1 / 2,2 / / /"), (0, 5))

    def test_a_spot_is_missing_at_the_end(self):
        self.assertEqual(wrong_word("0,0 /"), (0, 2))
        self.assertEqual(wrong_word("0,0 1,1 / 2,2 /"), (0, 5))

    def test_spaces(self):
        self.assertEqual(wrong_word(" "), (0, 0))
        self.assertEqual(wrong_word("  "), (0, 0))
        self.assertEqual(wrong_word(" 0,0"), (0, 0))
        self.assertEqual(wrong_word("0,0 "), (0, 1))
        self.assertEqual(wrong_word("0,0  1,1"), (0, 1))
        self.assertEqual(wrong_word("0,0 1,1  / 2,2"), (0, 2))
        self.assertEqual(wrong_word("0,0 /  2,2"), (0, 2))
        self.assertEqual(wrong_word("0,0 / "), (0, 2))
        self.assertEqual(wrong_word("0,0 / 1,1 "), (0, 3))

    def test_other_white_space(self):
        self.assertEqual(wrong_word("0,0\n1,1"), (0, 0))
        self.assertEqual(wrong_word("0,0\t1,1"), (0, 0))
        self.assertEqual(wrong_word("0,0 1,1\n"), (0, 1))
        self.assertEqual(wrong_word("\n"), (0, 0))

    def test_the_first_wrong_word(self):
        self.assertEqual(wrong_word("0,0 x / y /"), (0, 1))
        self.assertEqual(wrong_word("0,0 / / x"), (0, 2))


class StrokesThatCannotBe(unittest.TestCase):
    def check_index(self, text, index):
        with self.assertRaises(InvalidStroke) as caught:
            parse_drawing(text)
        self.assertEqual(caught.exception.index, index)

    def test_equal_neighbours(self):
        self.check_index("1,0 1,0", 0)
        self.check_index("1,0 / 2,0 / 3,0 4,0 4,0", 2)

    def test_too_many_spots(self):
        spots = [f"{x},0" for x in range(13)]
        self.assertEqual(len(parse_drawing(" ".join(spots[:12]))[0]), 12)
        self.check_index(" ".join(spots), 0)
        self.check_index("5,5 / " + " ".join(spots), 1)

    def test_too_many_strokes(self):
        self.assertEqual(len(parse_drawing(" / ".join(["1,0"] * 12))), 12)
        with self.assertRaises(TooMany):
            parse_drawing(" / ".join(["1,0"] * 13))

    def test_bad_text_first(self):
        self.assertEqual(wrong_word("1,0 1,0 / x"), (0, 3))
        self.assertEqual(wrong_word(" / ".join(["1,0"] * 13) + " /"), (0, 26))
        self.assertEqual(wrong_word(" ".join([f"{x},0" for x in range(13)]) + " 2,2,2"), (0, 13))

    def test_invalid_stroke_ahead_of_too_many(self):
        self.check_index(" / ".join(["1,0"] * 12 + ["1,0 1,0"]), 12)
        self.check_index(" / ".join(["1,0"] * 5 + ["1,0 1,0"] + ["1,0"] * 20), 5)


class Back(unittest.TestCase):
    def test_a_text_is_read_back_as_the_drawing(self):
        source = random.Random(21)
        for _ in range(200):
            strokes = []
            for _ in range(source.randint(0, 12)):
                spots = [(source.randint(-10 ** source.randint(0, 8), 10 ** source.randint(0, 8)), 1, source.randint(1, 99))
                         for _ in range(source.randint(1, 12))]
                spots = [spot for number, spot in enumerate(spots) if number == 0 or spot != spots[number - 1]]
                strokes.append(tuple(spots))
            drawing = Drawing(*strokes)
            self.assertEqual(parse_drawing(format_drawing(drawing)), drawing)

    def test_numbers_of_any_length(self):
        self.assertEqual(format_drawing(Drawing((at(10 ** 9, -10 ** 9),))), "1000000000,-1000000000")
        for count in (9, 10, 17, 18, 19, 35, 36, 37, 40, 54, 4299, 4300, 4301, 9000):
            zeros, nines = "0" * count, "9" * count
            power = 10 ** count
            drawing = Drawing((at(power, -power), (1 - power, 1, power)))
            self.assertEqual(format_drawing(drawing), f"1{zeros},-1{zeros} -{nines},1,1{zeros}")

    def test_zeros_within_long_numbers(self):
        for number in (10 ** 18, 10 ** 18 + 5, 12345678901234567890123456789012345678901, 5 * 10 ** 36 + 7 * 10 ** 17):
            self.assertEqual(format_drawing(Drawing((at(number, -number),))), f"{number},-{number}")

    def test_long_numbers_are_not_read(self):
        self.assertEqual(wrong_word(format_drawing(Drawing((at(HUGE),)))), (0, 0))
        self.assertEqual(wrong_word("1" * 5000 + ",0"), (0, 0))


class Picture(unittest.TestCase):
    def test_limit_0(self):
        self.assertEqual(picture(Drawing(), 0), ".")
        self.assertEqual(picture(Drawing((MIDDLE,)), 0), "#")
        self.assertEqual(picture(Drawing((ONE,)), 0), ".")
        self.assertEqual(picture(Drawing(line((-1, -1), (1, 1))), 0), "#")

    def test_the_order_of_the_rows(self):
        self.assertEqual(picture(Drawing((at(0, 1),)), 1), ".#.\n...\n...")
        self.assertEqual(picture(Drawing((at(1, 0),)), 1), "...\n..#\n...")
        self.assertEqual(picture(Drawing((at(-1, -1),)), 1), "...\n...\n#..")
        self.assertEqual(picture(Drawing(line((-1, 1), (1, 1), (1, -1))), 1), "###\n..#\n..#")

    def test_lines_that_pass_whole_spots_and_that_do_not(self):
        self.assertEqual(picture(Drawing(line((-2, -1), (2, 1))), 2), ".....\n....#\n..#..\n#....\n.....")
        self.assertEqual(picture(Drawing(((-4, 1, 2), (4, 1, 2))), 1), "...\n...\n...")
        self.assertEqual(picture(Drawing(((-1, 0, 2), (3, 0, 2))), 2), ".....\n.....\n..##.\n.....\n.....")

    def test_dots(self):
        self.assertEqual(picture(Drawing(((1, 0, 2),), (at(0, 1),), (at(9, 9),)), 1), ".#.\n...\n...")

    def test_no_line_feed_at_the_end(self):
        self.assertEqual(picture(Drawing(), 2), "\n".join(["....."] * 5))

    def test_limit_20(self):
        rows = picture(Drawing(line((-50, 0), (50, 0)), line((0, -20), (0, 20)), (at(20, 20),)), 20).split("\n")
        self.assertEqual([len(row) for row in rows], [41] * 41)
        self.assertEqual(rows[20], "#" * 41)
        self.assertEqual(rows[0], "." * 20 + "#" + "." * 19 + "#")
        self.assertEqual(rows[1:20] + rows[21:], ["." * 20 + "#" + "." * 20] * 39)

    def test_just_what_is_covered(self):
        drawing = Drawing(line((-3, 2), (4, -1), (1, -4), (1, 5)), ((1, 1, 3), (10, 10, 3)), (at(-4, -4),), ((5, 6, 7),))
        rows = [[("#" if drawing.covers(at(x, y)) else ".") for x in range(-5, 6)] for y in range(5, -6, -1)]
        self.assertEqual(picture(drawing, 5), "\n".join(["".join(row) for row in rows]))

    def test_invalid_size(self):
        for wrong in [-1, 21, 22, HUGE, -HUGE, *NO_NUMBERS]:
            for drawing in (Drawing(), Drawing((MIDDLE,))):
                with self.assertRaises(InvalidSize, msg=wrong):
                    picture(drawing, wrong)

    def test_repeated_calls(self):
        drawing = Drawing((ONE,))
        self.assertEqual(picture(drawing, 1), picture(drawing, 1))
        self.assertEqual(drawing.strokes, ((ONE,),))


class Names(unittest.TestCase):
    def test_letters(self):
        for name in ("a", "z", "abcdef", "arm", "zzzzzz"):
            self.assertIs(is_name(name, 6), True)
        for name in ("", "abcdefg", "A", "aB", "a1", "a b", "a-", "\u00e4", "a\n", "\u0430", None, 5, ("a",), ["a"], b"a"):
            self.assertIs(is_name(name, 6), False, name)
