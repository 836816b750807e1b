"""Points 17 and 18: rows of the arms of a box, the copies that they make and what they can draw."""

import itertools
import unittest

from copyarms.arms import Arm
from copyarms.boxes import copy_count, drawable_rows, needless_arms, row_to_draw, rows_for
from copyarms.chains import Chain, can_draw
from copyarms.copies import Copy
from copyarms.drawings import Drawing, alike
from copyarms.errors import InvalidBox
from tests.exact import HUGE, I, MIDDLE, ONE, at, line, told

BACK = (-1, 0, 1)
STILL = Copy(ONE, MIDDLE)
DOUBLE = Arm(MIDDLE, (2, 0, 1), 0, 9)
HALF = Arm(MIDDLE, (1, 0, 2), 0, 9)
ASIDE = Arm(at(4), (2, 0, 1), 0, 9)
QUARTER = Arm(ONE, I, 0, 20)
MIRROR = Arm(at(1, 1), ONE, 0, 20, mirrored=True)
IDLE = Arm(at(3), ONE, 1, 5)
FIVE = (DOUBLE, ASIDE, QUARTER, MIRROR, Arm((1, 2, 3), (3, 4, 5), 0, 15, mirrored=True))
BOXES = [(DOUBLE,), (IDLE,), (DOUBLE, HALF), (DOUBLE, ASIDE, HALF), (QUARTER, QUARTER, QUARTER, QUARTER),
         (MIRROR, QUARTER, MIRROR), (IDLE, DOUBLE, IDLE), FIVE, FIVE[1:]]
NO_BOXES = [(), (DOUBLE,) * 6, (DOUBLE, ASIDE, QUARTER, MIRROR, HALF, IDLE), (IDLE,) * 7]


def rows_exactly(count):
    """All rows, in the document's order."""
    rows = [row for length in range(count + 1) for row in itertools.permutations(range(count), length)]
    return sorted(rows, key=lambda row: (len(row), row))


def chain_of(box, row):
    return Chain(*[box[number] for number in row])


def copies_of(box, numbers):
    """What makes the copies of all rows of some numbers, each once."""
    rows = [row for row in rows_exactly(len(box)) if set(row) <= set(numbers)]
    return {told(chain_of(box, row).effect) for row in rows}


class RowsFor(unittest.TestCase):
    def test_several_rows(self):
        self.assertEqual(rows_for((DOUBLE, HALF), STILL), [(), (0, 1), (1, 0)])
        self.assertEqual(rows_for((DOUBLE, DOUBLE, DOUBLE), Copy((4, 0, 1), MIDDLE)),
                         [(0, 1), (0, 2), (1, 0), (1, 2), (2, 0), (2, 1)])

    def test_the_order_of_the_rows(self):
        still = (IDLE,) * 3
        self.assertEqual(rows_for(still, STILL), [(), (0,), (1,), (2,), (0, 1), (0, 2), (1, 0), (1, 2), (2, 0), (2, 1),
                                                  (0, 1, 2), (0, 2, 1), (1, 0, 2), (1, 2, 0), (2, 0, 1), (2, 1, 0)])
        for count in range(1, 6):
            self.assertEqual(rows_for((IDLE,) * count, STILL), rows_exactly(count))
        self.assertEqual(len(rows_for((IDLE,) * 5, STILL)), 326)

    def test_one_row(self):
        self.assertEqual(rows_for((DOUBLE, ASIDE), Copy((4, 0, 1), at(-4))), [(0, 1)])
        self.assertEqual(rows_for((DOUBLE, ASIDE), Copy((4, 0, 1), at(-8))), [(1, 0)])
        self.assertEqual(rows_for((DOUBLE, ASIDE), STILL), [()])
        self.assertEqual(rows_for((DOUBLE, ASIDE), ASIDE.effect), [(1,)])

    def test_none(self):
        self.assertEqual(rows_for((DOUBLE, ASIDE), Copy((4, 0, 1), at(-5))), [])
        self.assertEqual(rows_for((DOUBLE,), Copy((2, 0, 1), MIDDLE, mirrored=True)), [])
        self.assertEqual(rows_for((IDLE,), Copy((2, 0, 1), MIDDLE)), [])

    def test_an_arm_is_joined_once_only(self):
        self.assertEqual(rows_for((DOUBLE,), Copy((4, 0, 1), MIDDLE)), [])
        self.assertEqual(rows_for((DOUBLE, DOUBLE), Copy((8, 0, 1), MIDDLE)), [])

    def test_whatever_the_arms_reach(self):
        never = Arm(at(900), BACK, 0, 0)
        self.assertEqual(rows_for((never, never), STILL), [(), (0, 1), (1, 0)])

    def test_all_boxes(self):
        for box in BOXES:
            for goal in (STILL, box[0].effect, Chain(*box).effect, Copy((0, 2, 1), at(3), mirrored=True)):
                expected = [row for row in rows_exactly(len(box)) if told(chain_of(box, row).effect) == told(goal)]
                self.assertEqual(rows_for(box, goal), expected)

    def test_invalid_box(self):
        for wrong in NO_BOXES:
            with self.assertRaises(InvalidBox):
                rows_for(wrong, STILL)

    def test_the_list_is_the_callers(self):
        box = (DOUBLE, HALF)
        rows_for(box, STILL).clear()
        self.assertEqual(rows_for(box, STILL), [(), (0, 1), (1, 0)])
        self.assertEqual(box, (DOUBLE, HALF))


class CopyCount(unittest.TestCase):
    def test_arms_whose_copies_are_alike(self):
        self.assertEqual(copy_count((DOUBLE, DOUBLE)), 3)
        self.assertEqual(copy_count((DOUBLE, Arm(MIDDLE, (2, 0, 1), 3, 4))), 3)
        self.assertEqual(copy_count((DOUBLE,) * 5), 6)

    def test_arms_that_lead_back(self):
        self.assertEqual(copy_count((DOUBLE, HALF)), 3)
        self.assertEqual(copy_count((QUARTER,) * 3), 4)
        self.assertEqual(copy_count((QUARTER,) * 5), 4)
        self.assertEqual(copy_count((MIRROR, MIRROR)), 2)
        self.assertEqual(copy_count((IDLE,)), 1)
        self.assertEqual(copy_count((IDLE, IDLE, IDLE)), 1)

    def test_all_different(self):
        self.assertEqual(copy_count((DOUBLE,)), 2)
        self.assertEqual(copy_count((DOUBLE, ASIDE)), 5)
        self.assertEqual(copy_count((DOUBLE, Arm(MIDDLE, (3, 0, 1), 0, 9))), 4)

    def test_copies_that_differ_only_in_their_mirroring_or_their_shift(self):
        self.assertEqual(copy_count((Arm(MIDDLE, (2, 0, 1), 0, 9), Arm(MIDDLE, (2, 0, 1), 0, 9, mirrored=True))), 4)
        self.assertEqual(copy_count((Arm(MIDDLE, BACK, 0, 9), Arm(ONE, BACK, 0, 9))), 5)

    def test_all_boxes(self):
        for box in BOXES:
            self.assertEqual(copy_count(box), len(copies_of(box, range(len(box)))))

    def test_invalid_box(self):
        for wrong in NO_BOXES:
            with self.assertRaises(InvalidBox):
                copy_count(wrong)


class NeedlessArms(unittest.TestCase):
    def test_equal_arms(self):
        self.assertEqual(needless_arms((MIRROR, MIRROR)), [0, 1])
        self.assertEqual(needless_arms((QUARTER,) * 4), [0, 1, 2, 3])
        self.assertEqual(needless_arms((DOUBLE, MIRROR, MIRROR)), [])

    def test_equal_arms_that_make_more_together(self):
        self.assertEqual(needless_arms((DOUBLE, DOUBLE)), [])
        self.assertEqual(needless_arms((QUARTER,) * 3), [])

    def test_an_arm_that_keeps_all(self):
        self.assertEqual(needless_arms((IDLE, DOUBLE)), [0])
        self.assertEqual(needless_arms((DOUBLE, IDLE, ASIDE, IDLE)), [1, 3])

    def test_the_only_arm(self):
        self.assertEqual(needless_arms((DOUBLE,)), [])
        self.assertEqual(needless_arms((IDLE,)), [0])

    def test_none(self):
        self.assertEqual(needless_arms((DOUBLE, ASIDE)), [])
        self.assertEqual(needless_arms((DOUBLE, HALF)), [])

    def test_all_boxes(self):
        for box in BOXES:
            numbers = range(len(box))
            whole = len(copies_of(box, numbers))
            expected = [number for number in numbers if len(copies_of(box, set(numbers) - {number})) == whole]
            self.assertEqual(needless_arms(box), expected)

    def test_invalid_box(self):
        for wrong in NO_BOXES:
            with self.assertRaises(InvalidBox):
                needless_arms(wrong)

    def test_the_list_is_the_callers(self):
        box = (IDLE, DOUBLE)
        needless_arms(box).append(9)
        self.assertEqual(needless_arms(box), [0])


DRAWINGS = [Drawing(), Drawing((at(8),)), Drawing(line((1, 0), (3, 1))), Drawing(line((0, 0), (4, 0), (4, 3)), (at(1, 1),)),
            Drawing(line((-9, 0), (9, 0))), Drawing(((1, 5, 7), (3, 0, 2)))]


class DrawableRows(unittest.TestCase):
    def test_the_order_of_the_arms_matters(self):
        self.assertEqual(drawable_rows((DOUBLE, HALF), Drawing((at(8),))), [(), (0,), (1,), (1, 0)])
        self.assertEqual(drawable_rows((DOUBLE, DOUBLE, HALF), Drawing((at(5),))),
                         [(), (0,), (1,), (2,), (2, 0), (2, 1), (2, 0, 1), (2, 1, 0)])

    def test_only_the_empty_row(self):
        self.assertEqual(drawable_rows((DOUBLE, ASIDE, HALF), Drawing((at(HUGE),))), [()])
        self.assertEqual(drawable_rows((IDLE,), Drawing((at(3),))), [()])

    def test_a_drawing_without_strokes(self):
        for count in range(1, 6):
            self.assertEqual(drawable_rows(FIVE[:count], Drawing()), rows_exactly(count))

    def test_also_between_the_spots(self):
        self.assertEqual(drawable_rows((IDLE, DOUBLE), Drawing(line((1, 0), (5, 0)))), [(), (1,)])

    def test_all_boxes(self):
        for box in BOXES:
            for drawing in DRAWINGS:
                expected = [row for row in rows_exactly(len(box)) if can_draw(chain_of(box, row), drawing)]
                self.assertEqual(drawable_rows(box, drawing), expected)

    def test_invalid_box(self):
        for wrong in NO_BOXES:
            for drawing in DRAWINGS[:2]:
                with self.assertRaises(InvalidBox):
                    drawable_rows(wrong, drawing)

    def test_the_list_is_the_callers(self):
        drawing = Drawing((at(8),))
        drawable_rows((DOUBLE, HALF), drawing).clear()
        self.assertEqual(drawable_rows((DOUBLE, HALF), drawing), [(), (0,), (1,), (1, 0)])
        self.assertEqual(drawing.strokes, ((at(8),),))


class RowToDraw(unittest.TestCase):
    def test_the_first_of_several_rows(self):
        drawing = Drawing(line((1, 0), (2, 0)))
        self.assertEqual(row_to_draw((DOUBLE, DOUBLE), drawing, Drawing(line((2, 0), (4, 0)))), (0,))
        self.assertEqual(row_to_draw((IDLE, DOUBLE, DOUBLE), drawing, Drawing(line((4, 0), (8, 0)))), (1, 2))
        self.assertEqual(row_to_draw((DOUBLE, HALF), drawing, drawing), ())
        self.assertEqual(row_to_draw((DOUBLE, HALF, ASIDE), Drawing(), Drawing()), ())

    def test_the_first_that_can_draw(self):
        drawing = Drawing((at(5),))
        short = Arm(MIDDLE, (2, 0, 1), 0, 4)
        self.assertEqual(row_to_draw((short, DOUBLE), drawing, Drawing((at(10),))), (1,))
        self.assertEqual(row_to_draw((ASIDE, DOUBLE, HALF), drawing, Drawing((at(3),))), (0, 2))

    def test_the_goal_in_other_strokes(self):
        drawing = Drawing(line((0, 0), (2, 0)), line((1, 0), (1, 1)))
        goal = Drawing(line((2, 2), (2, 0)), line((4, 0), (1, 0)), line((0, 0), (1, 0)), (at(3),))
        self.assertEqual(row_to_draw((MIRROR, DOUBLE), drawing, goal), (1,))

    def test_none(self):
        drawing = Drawing(line((1, 0), (2, 0)))
        self.assertIsNone(row_to_draw((DOUBLE, HALF), drawing, Drawing(line((2, 0), (5, 0)))))
        self.assertIsNone(row_to_draw((DOUBLE, HALF), drawing, Drawing()))
        self.assertIsNone(row_to_draw((DOUBLE,), Drawing((at(10),)), Drawing((at(20),))))

    def test_a_part_of_the_goal_is_not_enough(self):
        self.assertIsNone(row_to_draw((DOUBLE,), Drawing((at(1),)), Drawing((at(2),), (at(3),))))
        self.assertIsNone(row_to_draw((DOUBLE,), Drawing((at(1),), (at(3),)), Drawing((at(2),))))

    def test_all_boxes(self):
        for box in BOXES:
            for drawing in DRAWINGS[1:4]:
                able = [row for row in rows_exactly(len(box)) if can_draw(chain_of(box, row), drawing)]
                goals = [chain_of(box, row).draw(drawing) for row in able[::11]]
                for goal in goals:
                    expected = next(row for row in able if alike(chain_of(box, row).draw(drawing), goal))
                    self.assertEqual(row_to_draw(box, drawing, goal), expected)

    def test_invalid_box(self):
        for wrong in NO_BOXES:
            with self.assertRaises(InvalidBox):
                row_to_draw(wrong, Drawing(), Drawing())
