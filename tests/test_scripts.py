"""Points 23 to 25: scripts."""

import itertools
import unittest

from copyarms.drawings import Drawing
from copyarms.errors import BadRow, BadText, UnknownName
from copyarms.scripts import Script
from tests.exact import MIDDLE, at, line

ARM = "arm a 0,0 2,0 0 9"
INK = "ink b 1,0 2,0"
TEXT = f"{ARM}\n{INK}\ncopy c b a\njoin d b c"


def outcome(text):
    """What the error of a script tells: (row, word) of a BadText, (row, reason) of a BadRow, or None."""
    try:
        Script(text)
    except BadText as error:
        return error.row, error.word
    except BadRow as error:
        return error.row, error.reason
    return None


WRONG_SPOTS = ["", "0", "0,0,1", "2,2,2", "01,2", "-0,1", "1000000000,0", "/", "x", "1,0,0", "1,0,-2", "mirrored"]
WRONG_NAMES = ["", "abcdefg", "A", "a1", "a,b", "1", "a-b", "a_b", "\u00e4", "/", "0,0", "mirrored"]
WRONG_REACHES = ["", "00", "01", "007", "10000", "12345", "-1", "-0", "+1", "1.0", "a", "1,0", "0x1", "\u0661", "mirrored"]


class ArmRows(unittest.TestCase):
    def check(self, row, word):
        self.assertEqual(outcome(row), (0, word), row)
        self.assertEqual(outcome(f"{INK}\n{row}"), (1, word), row)

    def with_word(self, at, word, row="arm a 0,0 2,0 0 9 mirrored"):
        words = row.split(" ")
        words[at] = word
        return " ".join(words)

    def test_right_ones(self):
        for row in ("arm a 0,0 2,0 0 9", "arm abcdef -1,2,3 0,1 0 0 mirrored", "arm arm 1,1 1,1,2 999 1000",
                    "arm ink 123456789,1 1,1,2 7 10", "arm copy 0,0 1,0 1000 1000 mirrored"):
            self.assertIsNone(outcome(row), row)

    def test_a_wrong_word_at_each_place(self):
        for row in ("arm a 0,0 2,0 0 9 mirrored", "arm a 0,0 2,0 0 9"):
            for word in ("Arm", "arms", "", "mirrored", "a"):
                self.check(self.with_word(0, word, row), 0)
            for word in WRONG_NAMES:
                self.check(self.with_word(1, word, row), 1)
            for place, word in itertools.product((2, 3), WRONG_SPOTS):
                self.check(self.with_word(place, word, row), place)
            for place, word in itertools.product((4, 5), WRONG_REACHES):
                self.check(self.with_word(place, word, row), place)

    def test_mirrored_and_another_word_in_its_place(self):
        for word in ("", "Mirrored", "mirror", "mirroredd", "a", "0", "9", "mirrored,"):
            self.check(self.with_word(6, word), 6)

    def test_superfluous_words(self):
        for word in ("mirrored", "a", "", "0"):
            self.check(f"arm a 0,0 2,0 0 9 mirrored {word}", 7)
        self.check("arm a 0,0 2,0 0 9 ", 6)
        self.check("arm a 0,0 2,0 0 9 mirrored  ", 7)

    def test_missing_words(self):
        words = "arm a 0,0 2,0 0 9".split(" ")
        for count in range(1, 6):
            self.check(" ".join(words[:count]), count)

    def test_near_and_far_of_one_to_four_digits(self):
        for word in ("0", "5", "10", "999", "1000"):
            self.assertIsNone(outcome(f"arm a 0,0 2,0 0 {word}"))
            self.assertIsNone(outcome(f"arm a 0,0 2,0 {word} 1000"))
        self.assertEqual(outcome("arm a 0,0 2,0 0 9999"), (0, "reach"))
        self.check("arm a 0,0 2,0 0 10000", 5)
        self.check("arm a 0,0 2,0 10000 9", 4)

    def test_the_words_of_an_arm_are_told(self):
        mirrored = Script("arm a 1,2 0,2 1 9 mirrored\nink b 3,3\ncopy c b a")
        plain = Script("arm a 1,2 0,2 1 9\nink b 3,3\ncopy c b a")
        self.assertEqual([mirrored.drawing("c").strokes, plain.drawing("c").strokes], [((at(3, 6),),), ((at(-1, 6),),)])


class InkRows(unittest.TestCase):
    def check(self, row, word):
        self.assertEqual(outcome(row), (0, word), row)
        self.assertEqual(outcome(f"{ARM}\n{row}"), (1, word), row)

    def test_right_ones(self):
        for row in ("ink b 0,0", "ink abcdef 0,0 1,-3,2 / 5,5", "ink ink 1,0 / 1,0 / 1,0"):
            self.assertIsNone(outcome(row))

    def test_a_wrong_word_at_each_place(self):
        self.check("Ink b 0,0", 0)
        for word in WRONG_NAMES:
            self.check(f"ink {word} 0,0", 1)
        for word in WRONG_SPOTS:
            self.check(f"ink b {word}", 2)
            self.check(f"ink b {word} 0,0", 2)
            self.check(f"ink b 1,1 / {word} 0,0", 4)
            if word != "/":
                self.check(f"ink b 1,1 {word} 0,0", 3)

    def test_no_stroke(self):
        self.check("ink", 1)
        self.check("ink b", 2)
        self.check("ink b ", 2)

    def test_a_spot_is_missing(self):
        self.check("ink b /", 2)
        self.check("ink b 0,0 /", 4)
        self.check("ink b 0,0 / 1,1 /", 6)
        self.check("ink b 0,0 / / 1,1", 4)
        self.check("ink b / 0,0", 2)

    def test_spaces(self):
        self.check(" ink b 0,0", 0)
        self.check("ink  b 0,0", 1)
        self.check("ink b  0,0", 2)
        self.check("ink b 0,0  1,1", 3)
        self.check("ink b 0,0 ", 3)


class CopyAndJoinRows(unittest.TestCase):
    def check(self, row, word):
        self.assertEqual(outcome(row), (0, word), row)
        self.assertEqual(outcome(f"{ARM}\n{INK}\n{row}"), (2, word), row)

    def test_right_ones(self):
        for row in ("copy c b a", "copy c b a a a a a a", "join d b b", "join d b b b b b", "join join b b", "copy copy b a"):
            self.assertIsNone(outcome(f"{ARM.replace('2,0', '1,0')}\n{INK}\n{row}"), row)

    def test_a_wrong_word_at_each_place(self):
        for kind in ("copy", "join"):
            self.check(f"{kind}s c b a", 0)
            for word in WRONG_NAMES:
                self.check(f"{kind} {word} b a", 1)
                self.check(f"{kind} c {word} a", 2)
                self.check(f"{kind} c b {word}", 3)
                self.check(f"{kind} c b a {word}", 4)
                self.check(f"{kind} c b a {word} a", 4)
                self.check(f"{kind} c b a a a a a a a {word}", 10)

    def test_missing_words(self):
        for kind in ("copy", "join"):
            self.check(kind, 1)
            self.check(f"{kind} c", 2)
            self.check(f"{kind} c b", 3)

    def test_names_of_six_letters(self):
        self.assertIsNone(outcome("ink abcdef 0,0\njoin uvwxyz abcdef abcdef"))
        self.assertEqual(outcome("ink abcdef 0,0\njoin uvwxyz abcdef abcdefg"), (1, 3))


class WrongTexts(unittest.TestCase):
    def test_the_empty_text(self):
        self.assertEqual(outcome(""), (0, 0))

    def test_an_empty_row(self):
        self.assertEqual(outcome(f"{INK}\n"), (1, 0))
        self.assertEqual(outcome(f"\n{INK}"), (0, 0))
        self.assertEqual(outcome(f"{INK}\n\n{ARM}"), (1, 0))
        self.assertEqual(outcome("\n"), (0, 0))

    def test_no_such_row(self):
        self.assertEqual(outcome("draw a 0,0"), (0, 0))
        self.assertEqual(outcome(" "), (0, 0))

    def test_other_white_space(self):
        self.assertEqual(outcome(f"{INK}\r\n{ARM}"), (0, 3))
        self.assertEqual(outcome("ink\tb 0,0"), (0, 0))
        self.assertEqual(outcome("ink b 0,0\x0bink c 0,0"), (0, 2))

    def test_the_first_wrong_row(self):
        self.assertEqual(outcome("ink b 0,0\njoin d\ncopy"), (1, 2))
        self.assertEqual(outcome("ink b 0,0\nink c 0,0 x\nink 1"), (1, 3))

    def test_before_any_row_is_executed(self):
        self.assertEqual(outcome("copy c b a\nink b 0,0\nink b x"), (2, 2))
        self.assertEqual(outcome("arm a 0,0 0,0 0 9\nink"), (1, 1))
        self.assertEqual(outcome("ink b 0,0 0,0\nink b 0,0 /"), (1, 4))


class Executed(unittest.TestCase):
    def test_each_kind(self):
        script = Script(TEXT)
        self.assertEqual(script.drawing("b").strokes, (line((1, 0), (2, 0)),))
        self.assertEqual(script.drawing("c").strokes, (line((2, 0), (4, 0)),))
        self.assertEqual(script.drawing("d").strokes, (line((1, 0), (2, 0)), line((2, 0), (4, 0))))

    def test_the_first_arm_first(self):
        script = Script("arm a 0,0 2,0 0 9\narm b 4,0 0,1 1 9\nink i 1,0\ncopy c i a b\ncopy d i b a")
        self.assertEqual([script.drawing("c").strokes, script.drawing("d").strokes], [((at(4, -2),),), ((at(8, -6),),)])

    def test_join_in_order(self):
        script = Script("ink a 0,0 / 1,0\nink b 5,0 6,0\njoin c b a b")
        self.assertEqual(script.drawing("c").strokes, (line((5, 0), (6, 0)), (MIDDLE,), (at(1),), line((5, 0), (6, 0))))

    def test_taken(self):
        for row in ("arm b 0,0 1,0 0 9", "ink b 0,0", "copy b b a", "join b b b",
                    "arm a 0,0 1,0 0 9", "ink a 0,0", "copy a b a", "join a b b"):
            self.assertEqual(outcome(f"{ARM}\n{INK}\n{row}"), (2, "taken"), row)
        self.assertEqual(outcome(f"{TEXT}\nink d 0,0"), (4, "taken"))

    def test_turn(self):
        self.assertEqual(outcome("arm a 0,0 0,0 0 9"), (0, "turn"))
        self.assertEqual(outcome(f"{INK}\narm a 1,1 0,0 0 9 mirrored"), (1, "turn"))
        self.assertIsNone(outcome("arm a 0,0 0,1,999999999 0 9"))

    def test_reach(self):
        for near, far in ((2, 1), (0, 1001), (1001, 1001), (9999, 9999), (1, 0), (1000, 999)):
            self.assertEqual(outcome(f"arm a 0,0 1,0 {near} {far}"), (0, "reach"))
        for near, far in ((0, 0), (0, 1000), (1000, 1000), (5, 5)):
            self.assertIsNone(outcome(f"arm a 0,0 1,0 {near} {far}"))

    def test_name(self):
        for row in ("copy c x a", "copy c b x", "copy c b a a x", "join d x b", "join d b x", "join d b b b x"):
            self.assertEqual(outcome(f"{ARM}\n{INK}\n{row}"), (2, "name"), row)
            self.assertEqual(outcome(f"{ARM}\n{INK}\n{row}\nink x 0,0"), (2, "name"), row)

    def test_an_arm_is_no_drawing_nor_a_drawing_an_arm(self):
        for row in ("copy c a a", "copy c b b", "copy c b a b", "join d a b", "join d b a", "join d b b a"):
            self.assertEqual(outcome(f"{ARM}\n{INK}\n{row}"), (2, "name"), row)

    def test_a_name_that_a_later_row_tells(self):
        self.assertEqual(outcome(f"{INK}\ncopy c b a\n{ARM}"), (1, "name"))
        self.assertEqual(outcome(f"{ARM}\ncopy c b a\n{INK}"), (1, "name"))
        self.assertEqual(outcome(f"{INK}\njoin d b e\nink e 0,0"), (1, "name"))
        self.assertEqual(outcome(f"{INK}\njoin d b d"), (1, "name"))
        self.assertEqual(outcome(f"{ARM}\n{INK}\ncopy c c a"), (2, "name"))

    def test_stroke(self):
        self.assertEqual(outcome("ink b 0,0 0,0"), (0, "stroke"))
        self.assertEqual(outcome(f"{ARM}\nink b 0,0 / 1,0 2,0 2,0"), (1, "stroke"))
        spots = " ".join([f"{x},0" for x in range(13)])
        self.assertEqual(outcome(f"ink b {spots}"), (0, "stroke"))
        self.assertIsNone(outcome(f"ink b {spots.removesuffix(' 12,0')}"))

    def test_many_strokes(self):
        strokes = " / ".join(["1,0"] * 12)
        self.assertIsNone(outcome(f"ink b {strokes}"))
        self.assertEqual(outcome(f"ink b {strokes} / 1,0"), (0, "many"))
        self.assertIsNone(outcome("ink a 1,0 / 2,0 / 3,0\njoin b a a a a"))
        self.assertEqual(outcome("ink a 1,0 / 2,0 / 3,0\nink c 0,0\njoin b a a a a c"), (2, "many"))
        self.assertEqual(outcome("ink a 1,0\njoin b a a a a a a a a a a a a a"), (1, "many"))

    def test_many_arms(self):
        still = "arm a 0,0 1,0 0 9"
        self.assertIsNone(outcome(f"{still}\n{INK}\ncopy c b a a a a a a"))
        self.assertEqual(outcome(f"{still}\n{INK}\ncopy c b a a a a a a a"), (2, "many"))

    def test_out(self):
        self.assertEqual(outcome(f"{ARM}\nink b 10,0\ncopy c b a"), (2, "out"))
        self.assertEqual(outcome("arm a 0,0 1,0 2 9\nink b -3,0 3,0\ncopy c b a"), (2, "out"))

    def test_out_of_reach_behind_the_first_arm(self):
        self.assertEqual(outcome("arm a 0,0 2,0 0 9\nink b 5,0\ncopy c b a a"), (2, "out"))
        self.assertEqual(outcome("arm a 0,0 2,0 0 9\narm d 0,0 1,0 0 9\nink b 5,0\ncopy c b d d d a d"), (3, "out"))
        self.assertIsNone(outcome("arm a 0,0 2,0 0 9\narm d 0,0 1,0 0 9\nink b 5,0\ncopy c b d d d a"))

    def test_the_first_row(self):
        self.assertEqual(outcome("ink b 0,0 0,0\narm a 0,0 0,0 0 9"), (0, "stroke"))
        self.assertEqual(outcome("arm a 0,0 0,0 0 9\nink b 0,0 0,0"), (0, "turn"))


class TheFirstReason(unittest.TestCase):
    """For each two reasons that can be so at once, the first one."""

    def test_taken_ahead_of_all_others(self):
        for row in ("arm b 0,0 0,0 0 9", "arm b 0,0 1,0 9 0", "copy b x a", "join b x x", "ink b 0,0 0,0",
                    "ink b " + " / ".join(["1,0"] * 13), "copy b b a a a a a a a", "join b" + " b" * 13, "copy b far a"):
            self.assertEqual(outcome(f"{ARM}\n{INK}\nink far 100,0\n{row}"), (3, "taken"), row)

    def test_turn_ahead_of_reach(self):
        self.assertEqual(outcome("arm a 0,0 0,0 9 0"), (0, "turn"))
        self.assertEqual(outcome("arm a 0,0 0,0 0 1001 mirrored"), (0, "turn"))

    def test_name_ahead_of_many(self):
        self.assertEqual(outcome(f"{ARM}\n{INK}\ncopy c x a a a a a a a"), (2, "name"))
        self.assertEqual(outcome(f"{ARM}\n{INK}\ncopy c b a a a a a a x"), (2, "name"))
        self.assertEqual(outcome(f"{ARM}\n{INK}\njoin c" + " b" * 13 + " x"), (2, "name"))

    def test_name_ahead_of_out(self):
        self.assertEqual(outcome(f"{ARM}\nink b 100,0\ncopy c b a x"), (2, "name"))

    def test_stroke_ahead_of_many(self):
        self.assertEqual(outcome("ink b " + " / ".join(["1,0"] * 13 + ["2,0 2,0"])), (0, "stroke"))
        self.assertEqual(outcome("ink b " + " / ".join(["1,0"] * 12 + ["2,0 2,0"])), (0, "stroke"))

    def test_many_ahead_of_out(self):
        self.assertEqual(outcome(f"{ARM}\nink b 100,0\ncopy c b a a a a a a a"), (2, "many"))
        self.assertEqual(outcome(f"{ARM}\n{INK}\ncopy c b a a a a a a a"), (2, "many"))


LONG = "\n".join([
    "ink a 1,0", "arm p 0,0 2,0 0 99", "ink b 0,1 1,1", "arm q 0,0 0,1 0 99", "copy c a p", "join d b b",
    "copy e c q p q", "arm r 1,1 1,0 0 99", "join f a e", "join g f f c", "copy h d r"])


class Reading(unittest.TestCase):
    def test_text_and_len(self):
        for text in (TEXT, LONG, INK):
            script = Script(text)
            self.assertEqual([script.text, len(script)], [text, text.count("\n") + 1])

    def test_names(self):
        script = Script(LONG)
        self.assertEqual(script.names, ["a", "b", "c", "d", "e", "f", "g", "h"])
        self.assertEqual(script.arm_names, ["p", "q", "r"])
        other = Script("ink z 0,0\nink a 0,0\narm y 0,0 1,0 0 9\narm b 0,0 1,0 0 9\njoin m a z")
        self.assertEqual([other.names, other.arm_names], [["z", "a", "m"], ["y", "b"]])
        self.assertEqual([Script(INK).arm_names, Script(ARM).names], [[], []])

    def test_new_for_each_reading(self):
        script = Script(TEXT)
        script.names.clear()
        script.arm_names.append("x")
        script.needs("d").clear()
        self.assertEqual([script.names, script.arm_names, script.needs("d")], [["b", "c", "d"], ["a"], [0, 1, 2, 3]])
        self.assertIsNot(script.names, script.names)
        self.assertIsNot(script.arm_names, script.arm_names)

    def test_drawing(self):
        script = Script(LONG)
        self.assertEqual(script.drawing("g").strokes, ((at(1),), (at(-4),), (at(1),), (at(-4),), (at(2),)))
        self.assertIsInstance(script.drawing("a"), Drawing)
        self.assertEqual(script.drawing("g"), script.drawing("g"))

    def test_needs(self):
        script = Script(LONG)
        expected = {"a": [0], "b": [2], "c": [0, 1, 4], "d": [2, 5], "e": [0, 1, 3, 4, 6], "f": [0, 1, 3, 4, 6, 8],
                    "g": [0, 1, 3, 4, 6, 8, 9], "h": [2, 5, 7, 10]}
        for name, rows in expected.items():
            self.assertEqual(script.needs(name), rows, name)

    def test_needed_text(self):
        script = Script(LONG)
        self.assertEqual(script.needed_text("a"), "ink a 1,0")
        self.assertEqual(script.needed_text("c"), "ink a 1,0\narm p 0,0 2,0 0 99\ncopy c a p")
        self.assertEqual(script.needed_text("h"), "ink b 0,1 1,1\njoin d b b\narm r 1,1 1,0 0 99\ncopy h d r")

    def test_a_needed_text_tells_the_same_drawing(self):
        script = Script(LONG)
        for name in script.names:
            shorter = Script(script.needed_text(name))
            self.assertEqual(shorter.drawing(name), script.drawing(name))
            self.assertEqual(shorter.needs(name), list(range(len(shorter))))

    def test_unknown_name(self):
        script = Script(LONG)
        for name in ("p", "q", "r", "x", "", "aa", "A", "ink", "abcdefgh", "a ", "0"):
            for method in (script.drawing, script.needs, script.needed_text):
                with self.assertRaises(UnknownName, msg=name):
                    method(name)
        self.assertEqual(script.names, ["a", "b", "c", "d", "e", "f", "g", "h"])

    def test_a_long_chain_of_rows(self):
        rows = ["arm a 0,0 -1,0 0 9", "ink xa 1,0"]
        names = ["".join(letters) for letters in itertools.islice(itertools.product("xyz", repeat=6), 400)]
        for last, name in zip(["xa", *names], names):
            rows.append(f"copy {name} {last} a")
        script = Script("\n".join(rows))
        self.assertEqual(script.drawing(names[-1]).strokes, ((at(1),),))
        self.assertEqual(script.needs(names[-1]), list(range(402)))
        self.assertEqual(len(script), 402)

    def test_numbers_of_more_than_nine_digits_come_of_copies(self):
        script = Script("arm a 0,0 1,0,999999999 0 9\nink b 1,1\ncopy c b a a a")
        self.assertEqual(script.drawing("c").strokes, (((1, 1, 999999999 ** 3),),))

    def test_scripts_are_equal_to_nothing_of_another_kind(self):
        script = Script(INK)
        for other in (INK, script.drawing("b"), [], None, 1):
            self.assertFalse(script == other)
