"""Point 26: codes."""

import random
import unittest

from copyarms.codes import decode, encode
from copyarms.drawings import Drawing
from copyarms.errors import InvalidCode, InvalidStroke
from tests.exact import HUGE, MIDDLE, ONE, at, line

ZERO_SPOT = [0, 0, 0, 0, 0, 1, 1]
ONE_SPOT = [0, 1, 1, 0, 0, 0, 1, 1]
NO_ITEMS = [-1, 256, 1000, HUGE, -HUGE, True, False, None, "0", 1.0, (0,)]


def summed(items):
    """Some items and the checksum behind them."""
    total = 0
    for item in items:
        total = (total * 7 + item) % 251
    return [*items, total]


def number_exactly(number):
    """The items of a number, by Python's own bytes."""
    digits = list(abs(number).to_bytes((abs(number).bit_length() + 7) // 8, "big"))
    return [int(number < 0), len(digits), *digits]


def code_exactly(strokes):
    """The code of some strokes, over again."""
    items = [67, len(strokes)]
    for stroke in strokes:
        items.append(len(stroke))
        for spot in stroke:
            for number in spot:
                items += number_exactly(number)
    return summed(items)


def wrong_place(items):
    """The place that InvalidCode tells, or None."""
    try:
        decode(items)
    except InvalidCode as error:
        return error.place
    return None


def random_drawing(source, most_bits):
    """A drawing with numbers of up to so many bits."""
    strokes = []
    for _ in range(source.randint(0, 12)):
        spots = []
        for _ in range(source.randint(1, 12)):
            x = source.getrandbits(source.randint(1, most_bits)) * source.choice((-1, 1))
            spot = (x, source.choice((-1, 1)), source.randint(1, 2 ** source.randint(1, most_bits) - 1))
            if not spots or spots[-1] != spot:
                spots.append(spot)
        strokes.append(tuple(spots))
    return Drawing(*strokes)


class Encode(unittest.TestCase):
    def check(self, strokes, body):
        self.assertEqual(encode(Drawing(*strokes)), summed(body))

    def test_a_drawing_without_strokes(self):
        self.assertEqual(encode(Drawing()), [67, 0, 218])

    def test_zero(self):
        self.check([(MIDDLE,)], [67, 1, 1, *ZERO_SPOT])

    def test_negative_numbers(self):
        self.check([(at(-1, -255),)], [67, 1, 1, 1, 1, 1, 1, 1, 255, 0, 1, 1])

    def test_numbers_of_more_than_one_digit(self):
        self.check([((256, -300, 65537),)], [67, 1, 1, 0, 2, 1, 0, 1, 2, 1, 44, 0, 3, 1, 0, 1])

    def test_numbers_of_eight_digits_and_of_more(self):
        self.check([(at(2 ** 64 - 1, -2 ** 64),)],
                   [67, 1, 1, 0, 8, *[255] * 8, 1, 9, 1, *[0] * 8, 0, 1, 1])
        self.check([((1, 1, 256 ** 20),)], [67, 1, 1, 0, 1, 1, 0, 1, 1, 0, 21, 1, *[0] * 20])

    def test_very_long_numbers(self):
        items = encode(Drawing((at(256 ** 254),)))
        self.assertEqual(items, summed([67, 1, 1, 0, 255, 1, *[0] * 254, 0, 0, 0, 1, 1]))

    def test_several_strokes(self):
        self.check([(MIDDLE, ONE), (ONE,)], [67, 2, 2, *ZERO_SPOT, *ONE_SPOT, 1, *ONE_SPOT])

    def test_the_checksum(self):
        self.assertEqual(encode(Drawing(((0, -300, 1),)))[-1], 241)
        self.assertEqual(encode(Drawing())[-1], (67 * 7) % 251)

    def test_all_over_again(self):
        source = random.Random(26)
        for bits in (3, 8, 9, 40, 64, 100, 500):
            for _ in range(10):
                drawing = random_drawing(source, bits)
                self.assertEqual(encode(drawing), code_exactly(drawing.strokes))

    def test_the_list_is_the_callers(self):
        drawing = Drawing((ONE,))
        encode(drawing).clear()
        self.assertEqual(encode(drawing), summed([67, 1, 1, *ONE_SPOT]))


class Decode(unittest.TestCase):
    def test_back(self):
        source = random.Random(62)
        for bits in (3, 8, 9, 40, 64):
            for _ in range(20):
                drawing = random_drawing(source, bits)
                items = encode(drawing)
                kept = list(items)
                self.assertEqual(decode(items), drawing)
                self.assertEqual(items, kept)

    def test_the_greatest(self):
        stroke = tuple([((-1) ** x * (2 ** 64 - 1), x, 2 ** 64 - 2) for x in range(12)])
        drawing = Drawing(*[stroke] * 12)
        self.assertEqual(decode(encode(drawing)), drawing)

    def test_none(self):
        self.assertEqual(decode([67, 0, 218]), Drawing())

    def test_just_one_code_for_each_drawing(self):
        source = random.Random(67)
        accepted = 0
        for _ in range(4000):
            body = encode(Drawing(((3, -1, 2), (0, 600, 7)), (at(-5, 70000),)))[:-1]
            for _ in range(source.randint(1, 2)):
                body[source.randrange(1, len(body))] = source.choice((0, 1, 2, 3, 8, 9, 255))
            try:
                drawing = decode(summed(body))
            except (InvalidCode, InvalidStroke):
                continue
            accepted += 1
            self.assertEqual(encode(drawing), summed(body))
        self.assertGreater(accepted, 200)

    def test_nine_digits(self):
        items = encode(Drawing((at(2 ** 64),)))
        self.assertEqual(wrong_place(items), 4)
        self.assertEqual(wrong_place(encode(Drawing((at(0, -2 ** 64),)))), 6)
        self.assertEqual(wrong_place(encode(Drawing(((0, 1, 2 ** 64),)))), 9)


class InvalidCodes(unittest.TestCase):
    def check(self, items, place):
        """Whatever stands behind the wrong item, or nothing."""
        for more in ([], [0], [0] * 40, [-1], [True, 300]):
            self.assertEqual(wrong_place([*items, *more]), place, items)

    def test_the_67(self):
        for wrong in (0, 66, 68, 255, *NO_ITEMS):
            self.check([wrong], 0)
            self.check([wrong, 1, 1, *ZERO_SPOT], 0)

    def test_the_number_of_strokes(self):
        for wrong in (13, 14, 255, *NO_ITEMS):
            self.check([67, wrong], 1)

    def test_the_number_of_spots(self):
        for wrong in (0, 13, 14, 255, *NO_ITEMS):
            self.check([67, 1, wrong], 2)
            self.check([67, 2, 1, *ZERO_SPOT, wrong], 10)

    def test_a_sign(self):
        for wrong in (2, 3, 255, *NO_ITEMS):
            self.check([67, 1, 1, wrong], 3)
            self.check([67, 1, 1, 0, 0, wrong], 5)
            self.check([67, 1, 2, *ZERO_SPOT, wrong], 10)

    def test_a_third_numbers_sign(self):
        for wrong in (1, 2, 255, *NO_ITEMS):
            self.check([67, 1, 1, 0, 0, 0, 0, wrong], 7)

    def test_a_count_of_digits(self):
        for wrong in (9, 10, 255, *NO_ITEMS):
            self.check([67, 1, 1, 0, wrong], 4)
            self.check([67, 1, 1, 1, wrong], 4)
            self.check([67, 1, 1, 0, 0, 0, wrong], 6)
            self.check([67, 1, 1, 0, 0, 0, 0, 0, wrong], 8)

    def test_a_first_digit_0(self):
        self.check([67, 1, 1, 0, 1, 0], 5)
        self.check([67, 1, 1, 1, 1, 0], 5)
        self.check([67, 1, 1, 0, 2, 0, 5], 5)
        self.check([67, 1, 1, 0, 0, 0, 3, 0, 5, 5], 7)
        self.check([67, 1, 1, 0, 0, 0, 0, 0, 1, 0], 9)
        self.assertEqual(decode(summed([67, 1, 1, 0, 2, 5, 0, 0, 0, 0, 1, 1])).strokes, ((at(5 * 256),),))

    def test_the_sign_1_without_digits(self):
        self.check([67, 1, 1, 1, 0], 4)
        self.check([67, 1, 1, 0, 0, 1, 0], 6)

    def test_a_third_number_without_digits(self):
        self.check([67, 1, 1, 0, 0, 0, 0, 0, 0], 8)
        self.check([67, 1, 1, 0, 1, 1, 0, 1, 1, 0, 0], 10)

    def test_a_digit(self):
        for wrong in NO_ITEMS:
            self.check([67, 1, 1, 0, 1, wrong], 5)
            self.check([67, 1, 1, 0, 3, 7, wrong], 6)
            self.check([67, 1, 1, 0, 3, 7, 0, wrong], 7)
            self.check([67, 1, 1, 0, 0, 0, 0, 0, 1, wrong], 9)

    def test_an_item_that_is_missing(self):
        for drawing in (Drawing(), Drawing((MIDDLE,)), Drawing(((256, -300, 65537), ONE), (at(-1),))):
            items = encode(drawing)
            for count in range(len(items)):
                self.assertEqual(wrong_place(items[:count]), count)

    def test_an_item_that_is_superfluous(self):
        for drawing in (Drawing(), Drawing((MIDDLE,)), Drawing(((256, -300, 65537), ONE), (at(-1),))):
            items = encode(drawing)
            for more in [0, 1, 67, *NO_ITEMS]:
                self.assertEqual(wrong_place([*items, more]), len(items))
                self.assertEqual(wrong_place([*items, more, more]), len(items))
            self.assertEqual(wrong_place([*items, *items]), len(items))

    def test_a_wrong_checksum(self):
        for drawing in (Drawing(), Drawing((MIDDLE,)), Drawing(((256, -300, 65537), ONE), (at(-1),))):
            items = encode(drawing)
            for wrong in range(256):
                if wrong != items[-1]:
                    self.assertEqual(wrong_place([*items[:-1], wrong]), len(items) - 1)
            for wrong in NO_ITEMS:
                self.assertEqual(wrong_place([*items[:-1], wrong]), len(items) - 1)

    def test_a_wrong_checksum_ahead_of_what_stands_behind_it(self):
        items = encode(Drawing((ONE,)))
        for more in ([0], [300], [0, 0]):
            self.assertEqual(wrong_place([*items[:-1], items[-1] ^ 1, *more]), len(items) - 1)

    def test_a_boolean_as_the_checksum(self):
        for x in range(2, 400):
            items = encode(Drawing((at(x),)))
            if items[-1] == 1:
                self.assertEqual(wrong_place([*items[:-1], True]), len(items) - 1)
                return
        self.fail("no such checksum")

    def test_each_item_as_a_boolean(self):
        items = encode(Drawing((MIDDLE, ONE), (at(-1),)))
        for place, item in enumerate(items):
            if item in (0, 1):
                changed = list(items)
                changed[place] = bool(item)
                self.assertEqual(wrong_place(changed), place)

    def test_the_empty_list(self):
        self.assertEqual(wrong_place([]), 0)


class SpotsThatAreNone(unittest.TestCase):
    def check(self, items, place):
        self.assertEqual(wrong_place(summed(items)), place)
        for more in ([], [0], [300], [True, -1]):
            self.assertEqual(wrong_place([*items, *more]), place)

    def test_the_sign_of_its_first_number(self):
        self.check([67, 1, 1, 0, 0, 0, 0, 0, 1, 2], 3)
        self.check([67, 1, 1, 0, 1, 2, 0, 1, 4, 0, 1, 2], 3)
        self.check([67, 1, 2, *ZERO_SPOT, 1, 1, 3, 0, 0, 0, 1, 6], 10)
        self.check([67, 2, 1, *ONE_SPOT, 1, 0, 2, 1, 0, 0, 0, 0, 1, 4], 12)

    def test_looked_at_behind_its_last_digit(self):
        start = [67, 1, 1, 0, 1, 2, 0, 1, 4, 0, 2, 1]
        self.assertEqual(wrong_place(start), 12)
        self.assertEqual(wrong_place([*start, 256]), 12)
        self.assertEqual(wrong_place([*start, True]), 12)
        self.assertEqual(wrong_place([*start, 0]), 3)
        self.assertEqual(wrong_place([67, 1, 1, 0, 1, 2, 0, 1, 4, 0, 1]), 11)
        self.assertEqual(wrong_place([67, 1, 1, 0, 1, 2, 0, 1, 4, 1, 1, 2]), 9)

    def test_spots_that_are_ones(self):
        self.assertEqual(decode(summed([67, 1, 1, 0, 1, 2, 0, 1, 4, 0, 1, 3])).strokes, (((2, 4, 3),),))


class StrokesThatCannotBe(unittest.TestCase):
    def check(self, items, index):
        with self.assertRaises(InvalidStroke) as caught:
            decode(items)
        self.assertEqual(caught.exception.index, index)

    def test_equal_neighbours(self):
        self.check(summed([67, 1, 2, *ZERO_SPOT, *ZERO_SPOT]), 0)
        self.check(summed([67, 3, 1, *ZERO_SPOT, 3, *ZERO_SPOT, *ONE_SPOT, *ONE_SPOT, 2, *ONE_SPOT, *ONE_SPOT]), 1)

    def test_after_all_of_the_code(self):
        body = [67, 2, 2, *ZERO_SPOT, *ZERO_SPOT]
        self.assertEqual(wrong_place([*body, 0]), 17)
        self.assertEqual(wrong_place([*body, 1, *ZERO_SPOT[:-1], 3]), 18)
        self.assertEqual(wrong_place(summed([*body, 1, *ZERO_SPOT])[:-1]), 25)
        self.assertEqual(wrong_place([*summed([*body, 1, *ZERO_SPOT]), 0]), 26)
        self.assertEqual(wrong_place([*body, 1, *ZERO_SPOT, 255]), 25)
        self.check(summed([*body, 1, *ZERO_SPOT]), 0)

    def test_lines_that_go_back_are_none_of_them(self):
        drawing = Drawing(line((0, 0), (1, 0), (0, 0)))
        self.assertEqual(decode(encode(drawing)), drawing)
