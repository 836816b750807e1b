"""Point 15: which copies carry what a drawing covers to what another one covers."""

import itertools
import unittest

from copyarms.copies import Copy, carriers
from copyarms.drawings import Drawing, alike
from copyarms.likeness import symmetries, ways
from tests.exact import HUGE, I, MIDDLE, ONE, at, exact, line, told

BACK = (-1, 0, 1)
DOWN = (0, -1, 1)
SQUARE = Drawing(line((0, 0), (1, 0), (1, 1), (0, 1), (0, 0)))
HOOK = Drawing(line((0, 0), (3, 0), (3, 1)))
NOTHING = Drawing()


def all_told(copies):
    return [told(copy) for copy in copies]


def in_the_documents_order(copies):
    """Those not mirrored first, then by their turns, then by their shifts, as fractions."""
    return sorted(copies, key=lambda copy: (copy.mirrored, exact(copy.turn), exact(copy.shift)))


def ways_exactly(one, other):
    """All copies that carry any two spots of one ink to any two of another, tried one by one."""
    start, goal = spots_of(one), spots_of(other)
    found = []
    for image in itertools.permutations(goal, 2):
        for copy in carriers(tuple(zip(start, image))):
            if alike(one.copied(copy), other) and copy not in found:
                found.append(copy)
    return in_the_documents_order(found)


def spots_of(drawing):
    """All dots of an ink, and all ends of its lines, each once."""
    dots, lines = drawing.ink()
    return list(dict.fromkeys([*dots, *[end for pair in lines for end in pair]]))


class NoEndOfThem(unittest.TestCase):
    def test_both_cover_nothing(self):
        self.assertIsNone(ways(NOTHING, NOTHING))
        self.assertIsNone(symmetries(NOTHING))

    def test_one_dot_each(self):
        self.assertIsNone(ways(Drawing((ONE,)), Drawing(((1, 5, 3),))))
        self.assertIsNone(ways(Drawing((ONE,)), Drawing((I,), (I,))))
        self.assertIsNone(symmetries(Drawing((ONE,))))
        self.assertIsNone(symmetries(Drawing((ONE,), (ONE,), (ONE,))))

    def test_only_one_covers_nothing(self):
        for drawing in (Drawing((ONE,)), Drawing((ONE,), (I,)), SQUARE):
            self.assertEqual(ways(drawing, NOTHING), [])
            self.assertEqual(ways(NOTHING, drawing), [])

    def test_one_dot_and_something_else(self):
        for drawing in (Drawing((ONE,), (I,)), SQUARE, Drawing((at(9),), (ONE, I)), Drawing((ONE, I))):
            self.assertEqual(ways(drawing, Drawing((ONE,))), [])
            self.assertEqual(ways(Drawing((ONE,)), drawing), [])


class OneLine(unittest.TestCase):
    def test_four_ways(self):
        found = ways(Drawing(line((0, 0), (1, 0))), Drawing(line((0, 0), (0, 2))))
        self.assertEqual(all_told(found), [((0, -2, 1), at(0, 2), False), ((0, 2, 1), MIDDLE, False),
                                           ((0, -2, 1), at(0, 2), True), ((0, 2, 1), MIDDLE, True)])

    def test_symmetries(self):
        self.assertEqual(all_told(symmetries(Drawing(line((1, 1), (2, 2))))),
                         [(BACK, at(3, 3), False), (ONE, MIDDLE, False), (DOWN, at(3, 3), True), (I, MIDDLE, True)])

    def test_fractions(self):
        found = ways(Drawing(((0, 0, 1), (5, 0, 1))), Drawing(((1, 0, 2), (7, 8, 2))))
        self.assertEqual(all_told(found), [((-3, -4, 5), (7, 8, 2), False), ((3, 4, 5), (1, 0, 2), False),
                                           ((-3, -4, 5), (7, 8, 2), True), ((3, 4, 5), (1, 0, 2), True)])

    def test_the_same_ink_in_other_strokes(self):
        one = Drawing(line((0, 0), (2, 0)), line((3, 0), (1, 0)), (at(2),), (at(1),))
        self.assertEqual(all_told(symmetries(one)), all_told(symmetries(Drawing(line((0, 0), (3, 0))))))
        self.assertEqual(len(ways(one, Drawing(line((0, 0), (1, 1))))), 4)


class SeveralDots(unittest.TestCase):
    def test_two_dots(self):
        self.assertEqual(all_told(symmetries(Drawing((MIDDLE,), (at(2),)))),
                         [(BACK, at(2), False), (ONE, MIDDLE, False), (BACK, at(2), True), (ONE, MIDDLE, True)])

    def test_three_dots_of_a_line(self):
        self.assertEqual(len(symmetries(Drawing((MIDDLE,), (at(2),), (at(4),)))), 4)
        self.assertEqual(all_told(symmetries(Drawing((MIDDLE,), (at(2),), (at(5),)))),
                         [(ONE, MIDDLE, False), (ONE, MIDDLE, True)])
        self.assertEqual(all_told(ways(Drawing((MIDDLE,), (at(2),), (at(5),)), Drawing((at(4),), (at(10),), (MIDDLE,)))),
                         [((2, 0, 1), MIDDLE, False), ((2, 0, 1), MIDDLE, True)])

    def test_dots_without_symmetry(self):
        dots = Drawing((MIDDLE,), (ONE,), (at(0, 3),), (at(5, 5),))
        self.assertEqual(all_told(symmetries(dots)), [(ONE, MIDDLE, False)])
        self.assertEqual(ways(dots, Drawing((MIDDLE,), (ONE,), (at(0, 3),), (at(5, 6),))), [])

    def test_the_corners_of_a_square(self):
        corners = Drawing(*[(at(x, y),) for x in (0, 1) for y in (0, 1)])
        self.assertEqual(all_told(symmetries(corners)), all_told(symmetries(SQUARE)))
        self.assertEqual(ways(corners, SQUARE), [])
        self.assertEqual(ways(SQUARE, corners), [])

    def test_as_many_dots_that_are_not_alike(self):
        self.assertEqual(ways(Drawing((MIDDLE,), (ONE,), (at(2),)), Drawing((MIDDLE,), (ONE,), (at(3),))), [])
        self.assertEqual(ways(Drawing((MIDDLE,), (ONE,)), Drawing((MIDDLE,), (ONE,), (at(2),))), [])

    def test_twelve_dots(self):
        dots = Drawing(*[(at(x * x, x),) for x in range(12)])
        copy = Copy((3, -4, 5), (1, 1, 7), mirrored=True)
        self.assertEqual(all_told(ways(dots, dots.copied(copy))), [told(copy)])


class DotsAndLines(unittest.TestCase):
    def test_a_dot_takes_symmetries_from_a_line(self):
        self.assertEqual(all_told(symmetries(Drawing(line((0, 0), (2, 0)), (at(1, 1),)))),
                         [(ONE, MIDDLE, False), (BACK, at(2), True)])
        self.assertEqual(all_told(symmetries(Drawing(line((0, 0), (2, 0)), (at(3),)))),
                         [(ONE, MIDDLE, False), (ONE, MIDDLE, True)])
        self.assertEqual(all_told(symmetries(Drawing(line((0, 0), (2, 0)), (at(0, 1),)))), [(ONE, MIDDLE, False)])

    def test_a_dot_on_a_line_is_nothing(self):
        self.assertEqual(len(symmetries(Drawing(line((0, 0), (2, 0)), ((1, 0, 2),)))), 4)

    def test_dots_are_not_carried_to_lines(self):
        self.assertEqual(ways(Drawing(line((0, 0), (2, 0)), (at(1, 1),)), Drawing(line((0, 0), (2, 0)))), [])
        self.assertEqual(ways(Drawing(line((0, 0), (2, 0)), (at(1, 1),)), Drawing(line((0, 0), (2, 0)), (at(1, 2),))), [])
        self.assertEqual(ways(Drawing(line((0, 0), (2, 0)), line((0, 1), (2, 1))), Drawing(line((0, 0), (2, 0)), (I,))), [])

    def test_one_line_and_two_dots(self):
        one = Drawing(line((0, 0), (2, 0)), (at(1, 1),), (at(1, -1),))
        found = ways(one, one.copied(Copy((1, 1, 1), at(5))))
        self.assertEqual(all_told(found), [((-1, -1, 1), at(7, 2), False), ((1, 1, 1), at(5), False),
                                           ((-1, -1, 1), at(7, 2), True), ((1, 1, 1), at(5), True)])


class Lines(unittest.TestCase):
    def test_all_symmetries_of_a_square(self):
        self.assertEqual(all_told(symmetries(SQUARE)), [
            (BACK, at(1, 1), False), (DOWN, at(0, 1), False), (I, at(1, 0), False), (ONE, MIDDLE, False),
            (BACK, at(1, 0), True), (DOWN, at(1, 1), True), (I, MIDDLE, True), (ONE, at(0, 1), True)])

    def test_all_ways_to_a_leaning_square(self):
        found = ways(SQUARE, SQUARE.copied(Copy((3, 4, 5), MIDDLE)))
        self.assertEqual([copy.mirrored for copy in found], [False] * 4 + [True] * 4)
        self.assertEqual([copy.turn for copy in found], [(-4, 3, 5), (-3, -4, 5), (3, 4, 5), (4, -3, 5)] * 2)

    def test_one_way(self):
        self.assertEqual(all_told(symmetries(HOOK)), [(ONE, MIDDLE, False)])
        for copy in (Copy((2, 1, 3), (1, 1, 5)), Copy((0, -7, 2), at(4, 4), mirrored=True)):
            self.assertEqual(all_told(ways(HOOK, HOOK.copied(copy))), [told(copy)])

    def test_an_oblong(self):
        oblong = Drawing(line((0, 0), (2, 0), (2, 1), (0, 1), (0, 0)))
        self.assertEqual(all_told(symmetries(oblong)), [
            (BACK, at(2, 1), False), (ONE, MIDDLE, False), (BACK, at(2), True), (ONE, at(0, 1), True)])
        self.assertEqual(ways(SQUARE, oblong), [])
        self.assertEqual(ways(oblong, SQUARE), [])

    def test_the_same_ink_in_other_strokes(self):
        pieces = Drawing(line((1, 0), (1, 1)), line((0, 1), (0, 0)), line((1, 1), (0, 1)), ((0, 0, 1), (1, 0, 2)),
                         ((1, 0, 1), (1, 0, 3)), (at(1, 1),))
        self.assertEqual(all_told(ways(pieces, SQUARE)), all_told(symmetries(SQUARE)))
        self.assertEqual(all_told(symmetries(pieces)), all_told(symmetries(SQUARE)))

    def test_crossing_lines_without_common_ends(self):
        self.assertEqual(len(symmetries(Drawing(line((-1, 0), (1, 0)), line((0, -1), (0, 1))))), 8)
        self.assertEqual(len(symmetries(Drawing(line((-1, 0), (1, 0)), line((0, -2), (0, 2))))), 4)
        self.assertEqual(len(symmetries(Drawing(line((-1, 0), (1, 0)), line((0, -1), (0, 2))))), 2)

    def test_a_turned_but_not_mirrored_figure(self):
        pinwheel = Drawing(line((0, 0), (2, 0), (2, 1)), line((0, 0), (0, 2), (-1, 2)), line((0, 0), (-2, 0), (-2, -1)),
                           line((0, 0), (0, -2), (1, -2)))
        self.assertEqual(all_told(symmetries(pinwheel)),
                         [(BACK, MIDDLE, False), (DOWN, MIDDLE, False), (I, MIDDLE, False), (ONE, MIDDLE, False)])

    def test_numbers_of_any_size(self):
        copy = Copy((HUGE, 1, 7), (1, HUGE, 3), mirrored=True)
        self.assertEqual(all_told(ways(HOOK, HOOK.copied(copy))), [told(copy)])

    def test_the_lists_are_the_callers(self):
        for find in (lambda: symmetries(SQUARE), lambda: ways(SQUARE, SQUARE), lambda: ways(SQUARE, HOOK)):
            found = find()
            again = all_told(found)
            found.append(None)
            self.assertEqual(all_told(find()), again)


class AgainstTryingAllPairs(unittest.TestCase):
    drawings = [
        SQUARE, HOOK, Drawing(line((0, 0), (1, 0))), Drawing(((1, 1, 3), (5, 2, 7))),
        Drawing((MIDDLE,), (at(2),)), Drawing((at(1, 1),), ((7, 1, 2),)), Drawing((MIDDLE,), (at(2),), (at(1, 1),)),
        Drawing((MIDDLE,), (at(2),), (at(4),)), Drawing((at(1, 1),), (at(2, 3),), (at(3, 5),)),
        Drawing(line((0, 0), (4, 0)), (at(2, 3),)), Drawing(line((0, 0), (0, 8)), (at(6, 4),)),
        Drawing(line((0, 0), (2, 0), (1, 3), (0, 0))), Drawing(line((0, 0), (1, 0), (0, 1), (0, 0))),
        Drawing(line((5, 5), (9, 5), (9, 9), (5, 5))), Drawing(line((0, 0), (1, 0)), line((2, 0), (3, 0))),
        Drawing(line((0, 0), (1, 0)), line((0, 1), (1, 1))), Drawing(line((0, 0), (2, 2)), line((0, 2), (2, 0))),
        Drawing(line((0, 0), (3, 1), (0, 2)), (at(1, 1),), (at(9, 1),)),
    ]

    def test_all(self):
        for one, other in itertools.product(self.drawings, repeat=2):
            self.assertEqual(all_told(ways(one, other)), all_told(ways_exactly(one, other)))
            if one == other:
                self.assertEqual(all_told(symmetries(one)), all_told(ways_exactly(one, one)))

    def test_all_copies(self):
        copies = [Copy((3, 4, 5), (1, -1, 2)), Copy((0, 2, 1), MIDDLE, mirrored=True), Copy((-1, 1, 3), at(4, 1))]
        for one, copy in itertools.product(self.drawings, copies):
            found = ways(one, one.copied(copy))
            self.assertIn(told(copy), all_told(found))
            self.assertEqual(all_told(found), all_told(in_the_documents_order([way >> copy for way in symmetries(one)])))
