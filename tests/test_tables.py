"""Points 27 and 28: tables."""

import random
import unittest

from copyarms.arms import Arm
from copyarms.chains import Chain
from copyarms.drawings import Drawing
from copyarms.errors import (
    CopyError, InvalidBox, InvalidName, InvalidOperation, NotFree, OutOfReach, UnknownArm, UnknownName)
from copyarms.tables import Table
from tests.exact import HUGE, I, MIDDLE, NO_NUMBERS, ONE, at, line

DOUBLE = Arm(MIDDLE, (2, 0, 1), 0, 9)
QUARTER = Arm(at(4), I, 1, 9)
MIRROR = Arm(ONE, ONE, 0, 50, mirrored=True)
BOX = (DOUBLE, QUARTER, MIRROR)
DOT = Drawing((ONE,))
STROKE = Drawing(line((1, 0), (2, 0)))
FAR = Drawing((at(100),))
EMPTY = ((), ())
NO_BOXES = [(), (DOUBLE,) * 6, (DOUBLE,) * 7]


def seen(table):
    """All that can be read of a table without an operation."""
    return table.arms_joined, table.operations, table.sheet()


def all_seen(table):
    """All that can be read, also by undoing and redoing all; the table is afterwards as before."""
    states = [seen(table)]
    undone = 0
    while table.undo():
        undone += 1
        states.append(seen(table))
    for _ in range(undone):
        table.redo()
    redone = 0
    while table.redo():
        redone += 1
        states.append(seen(table))
    for _ in range(redone):
        table.undo()
    return states


class AtFirst(unittest.TestCase):
    def test_nothing(self):
        self.assertEqual(seen(Table(BOX)), ((), [], EMPTY))
        self.assertEqual(all_seen(Table((DOUBLE,) * 5)), [((), [], EMPTY)])

    def test_invalid_box(self):
        for wrong in NO_BOXES:
            with self.assertRaises(InvalidBox):
                Table(wrong)

    def test_equal_to_nothing_of_another_kind(self):
        self.assertFalse(Table(BOX) == BOX)


class Take(unittest.TestCase):
    def test_how_many_are_joined(self):
        table = Table(BOX)
        self.assertEqual([table.take(2), table.take(0), table.take(1)], [1, 2, 3])
        self.assertEqual(table.arms_joined, (2, 0, 1))
        self.assertEqual(table.operations, ["take", "take", "take"])

    def test_five_arms(self):
        table = Table((DOUBLE,) * 5)
        self.assertEqual([table.take(number) for number in (4, 2, 0, 1, 3)], [1, 2, 3, 4, 5])
        self.assertEqual(table.arms_joined, (4, 2, 0, 1, 3))

    def test_unknown_arm(self):
        table = Table(BOX)
        table.take(1)
        before = all_seen(table)
        for wrong in [-1, 3, 4, HUGE, -HUGE, *NO_NUMBERS]:
            with self.assertRaises(UnknownArm, msg=wrong):
                table.take(wrong)
            self.assertEqual(all_seen(table), before)

    def test_not_free(self):
        table = Table(BOX)
        table.take(1)
        before = all_seen(table)
        with self.assertRaises(NotFree):
            table.take(1)
        self.assertEqual(all_seen(table), before)

    def test_unknown_arm_ahead_of_not_free(self):
        table = Table(BOX)
        table.take(1)
        table.take(0)
        for wrong in (True, False, 1.0):
            with self.assertRaises(UnknownArm):
                table.take(wrong)

    def test_free_again(self):
        table = Table(BOX)
        table.take(1)
        table.drop()
        self.assertEqual(table.take(1), 1)


class Drop(unittest.TestCase):
    def test_the_number_of_the_last_one(self):
        table = Table(BOX)
        table.take(2)
        table.take(0)
        self.assertEqual([table.drop(), table.arms_joined, table.drop(), table.arms_joined], [0, (2,), 2, ()])
        self.assertEqual(table.operations, ["take", "take", "drop", "drop"])

    def test_not_free(self):
        table = Table(BOX)
        with self.assertRaises(NotFree):
            table.drop()
        table.take(0)
        table.drop()
        before = all_seen(table)
        with self.assertRaises(NotFree):
            table.drop()
        self.assertEqual(all_seen(table), before)


class Draw(unittest.TestCase):
    def test_what_is_drawn(self):
        table = Table(BOX)
        table.take(0)
        drawn = table.draw(STROKE)
        self.assertIsInstance(drawn, Drawing)
        self.assertEqual(drawn.strokes, (line((2, 0), (4, 0)),))
        self.assertEqual(table.sheet(), ((), (line((2, 0), (4, 0)),)))
        self.assertEqual(table.operations, ["take", "draw"])

    def test_without_arms(self):
        table = Table(BOX)
        self.assertEqual(table.draw(FAR), FAR)
        self.assertEqual(table.sheet(), FAR.ink())

    def test_several_arms_in_order(self):
        for row in ((0, 1), (1, 0), (2, 0, 1), (1, 2)):
            table = Table(BOX)
            for number in row:
                table.take(number)
            drawing = Drawing(((1, 1, 2), at(1)))
            chain = Chain(*[BOX[number] for number in row])
            self.assertEqual(table.draw(drawing), chain.draw(drawing))
            self.assertEqual(table.sheet(), chain.draw(drawing).ink())

    def test_a_drawing_without_strokes(self):
        table = Table(BOX)
        self.assertEqual(table.draw(Drawing()), Drawing())
        self.assertEqual(seen(table), ((), ["draw"], EMPTY))

    def test_the_sheet_keeps_what_was_drawn_by_other_arms(self):
        table = Table(BOX)
        table.draw(STROKE)
        table.take(0)
        table.draw(STROKE)
        table.drop()
        table.draw(Drawing((at(7),), (at(3),)))
        self.assertEqual(table.sheet(), ((at(7),), (line((1, 0), (4, 0)),)))

    def test_out_of_reach(self):
        table = Table(BOX)
        table.take(0)
        table.take(1)
        table.draw(DOT)
        before = all_seen(table)
        for drawing, missed in ((FAR, (0, 0, 0)), (Drawing((ONE,), (at(2),)), (1, 1, 0)),
                                (Drawing((ONE,), line((1, 1), (1, 0), (3, 0))), (1, 1, 1))):
            with self.assertRaises(OutOfReach) as caught:
                table.draw(drawing)
            error = caught.exception
            self.assertEqual((error.arm, error.stroke, error.part), missed)
            self.assertEqual(all_seen(table), before)

    def test_more_than_12_strokes_on_the_sheet(self):
        table = Table(BOX)
        table.take(0)
        for y in range(5):
            table.draw(Drawing(*[(at(x, y),) for x in range(5)]))
        self.assertEqual(table.sheet(), (tuple([at(2 * x, 2 * y) for x in range(5) for y in range(5)]), ()))
        other = Table(BOX)
        for x in range(30):
            other.draw(Drawing(line((x, 0), (x + 1, 0))))
        self.assertEqual(other.sheet(), ((), (line((0, 0), (30, 0)),)))
        self.assertEqual(other.wipe(), ((), (line((0, 0), (30, 0)),)))

    def test_sheet_changes_nothing(self):
        table = Table(BOX)
        table.draw(DOT)
        self.assertEqual([table.sheet(), table.sheet()], [((ONE,), ())] * 2)
        self.assertEqual(table.operations, ["draw"])


class Wipe(unittest.TestCase):
    def test_what_the_old_one_had_on_it(self):
        table = Table(BOX)
        table.draw(STROKE)
        table.draw(Drawing(line((2, 0), (3, 0)), (at(5),)))
        self.assertEqual(table.wipe(), ((at(5),), (line((1, 0), (3, 0)),)))
        self.assertEqual(seen(table), ((), ["draw", "draw", "wipe"], EMPTY))
        table.draw(DOT)
        self.assertEqual(table.sheet(), DOT.ink())

    def test_an_empty_sheet(self):
        table = Table(BOX)
        self.assertEqual(table.wipe(), EMPTY)
        self.assertEqual(table.operations, ["wipe"])

    def test_the_arms_stay(self):
        table = Table(BOX)
        table.take(2)
        table.wipe()
        self.assertEqual(table.arms_joined, (2,))


class Readings(unittest.TestCase):
    def test_operations_are_new_for_each_reading(self):
        table = Table(BOX)
        table.take(0)
        table.operations.clear()
        self.assertEqual(table.operations, ["take"])
        self.assertIsNot(table.operations, table.operations)
        before = table.operations
        table.wipe()
        self.assertEqual(before, ["take"])

    def test_two_tables_are_apart(self):
        one, other = Table(BOX), Table(BOX)
        one.take(0)
        one.draw(DOT)
        one.save("a")
        self.assertEqual(seen(other), ((), [], EMPTY))
        with self.assertRaises(UnknownName):
            other.restore("a")


class UndoAndRedo(unittest.TestCase):
    def test_nothing_to_undo_or_redo(self):
        table = Table(BOX)
        self.assertIs(table.undo(), False)
        self.assertIs(table.redo(), False)
        self.assertEqual(seen(table), ((), [], EMPTY))
        table.take(0)
        self.assertIs(table.redo(), False)
        self.assertIs(table.undo(), True)
        self.assertIs(table.undo(), False)
        self.assertIs(table.redo(), True)
        self.assertIs(table.redo(), False)
        self.assertEqual(seen(table), ((0,), ["take"], EMPTY))

    def test_each_operation(self):
        table = Table(BOX)
        states = [seen(table)]
        for step in (lambda: table.take(0), lambda: table.draw(DOT), lambda: table.drop(), lambda: table.draw(FAR),
                     lambda: table.wipe(), lambda: table.wipe(), lambda: table.take(2), lambda: table.draw(Drawing())):
            step()
            after = seen(table)
            self.assertIs(table.undo(), True)
            self.assertEqual(seen(table), states[-1])
            self.assertIs(table.redo(), True)
            self.assertEqual(seen(table), after)
            states.append(after)
        for state in reversed(states[:-1]):
            self.assertIs(table.undo(), True)
            self.assertEqual(seen(table), state)
        self.assertIs(table.undo(), False)
        for state in states[1:]:
            self.assertIs(table.redo(), True)
            self.assertEqual(seen(table), state)
        self.assertIs(table.redo(), False)

    def test_an_operation_in_between(self):
        table = Table(BOX)
        table.take(0)
        table.take(1)
        table.undo()
        table.take(2)
        self.assertIs(table.redo(), False)
        self.assertEqual(seen(table), ((0, 2), ["take", "take"], EMPTY))
        table.undo()
        self.assertEqual(table.arms_joined, (0,))
        table.redo()
        self.assertEqual(table.arms_joined, (0, 2))

    def test_each_operation_in_between(self):
        for step in (lambda table: table.take(2), lambda table: table.drop(), lambda table: table.draw(Drawing()),
                     lambda table: table.wipe(), lambda table: table.draw(DOT)):
            table = Table(BOX)
            table.take(0)
            table.take(1)
            table.undo()
            step(table)
            self.assertIs(table.redo(), False)

    def test_what_is_no_operation_in_between(self):
        table = Table(BOX)
        table.take(0)
        table.draw(DOT)
        table.undo()
        table.undo()
        table.undo()
        table.sheet()
        table.save("a")
        self.assertIs(table.redo(), True)
        self.assertIs(table.redo(), True)
        self.assertEqual(seen(table), ((0,), ["take", "draw"], ((at(2),), ())))

    def test_an_error_in_between_changes_nothing(self):
        table = Table(BOX)
        table.take(0)
        table.draw(DOT)
        table.undo()
        before = all_seen(table)
        for step in (lambda: table.take(0), lambda: table.take(9), lambda: table.draw(FAR), lambda: table.save("A"),
                     lambda: table.restore("zz"), lambda: table.batch([("drop",), ("drop",)]), lambda: table.batch([()])):
            with self.assertRaises(CopyError):
                step()
            self.assertEqual(all_seen(table), before)
        self.assertIs(table.redo(), True)
        self.assertEqual(table.sheet(), ((at(2),), ()))


class SaveAndRestore(unittest.TestCase):
    def test_they_return_none(self):
        table = Table(BOX)
        self.assertIsNone(table.save("a"))
        self.assertIsNone(table.restore("a"))

    def test_the_state(self):
        table = Table(BOX)
        table.take(0)
        table.draw(DOT)
        table.save("abcdefgh")
        before = all_seen(table)
        table.drop()
        table.wipe()
        table.take(2)
        table.restore("abcdefgh")
        self.assertEqual(all_seen(table), before)
        self.assertEqual(seen(table), ((0,), ["take", "draw"], ((at(2),), ())))

    def test_what_can_be_undone_and_redone_then(self):
        table = Table(BOX)
        table.take(0)
        table.take(1)
        table.take(2)
        table.undo()
        table.save("x")
        table.redo()
        table.draw(Drawing())
        table.restore("x")
        self.assertEqual(table.arms_joined, (0, 1))
        self.assertIs(table.redo(), True)
        self.assertEqual(table.arms_joined, (0, 1, 2))
        self.assertIs(table.redo(), False)
        table.restore("x")
        self.assertEqual([table.undo(), table.undo(), table.undo()], [True, True, False])
        table.restore("x")
        self.assertEqual([table.arms_joined, table.redo()], [(0, 1), True])

    def test_after_undoing_beyond_the_snapshot(self):
        table = Table(BOX)
        table.take(0)
        table.save("x")
        table.undo()
        table.take(1)
        table.restore("x")
        self.assertEqual(seen(table), ((0,), ["take"], EMPTY))
        self.assertIs(table.redo(), False)
        self.assertIs(table.undo(), True)
        self.assertEqual(table.arms_joined, ())

    def test_a_name_that_is_replaced(self):
        table = Table(BOX)
        table.save("x")
        table.take(0)
        table.save("x")
        table.take(1)
        table.restore("x")
        self.assertEqual(table.arms_joined, (0,))

    def test_several_names(self):
        table = Table(BOX)
        for number, name in enumerate(("a", "b", "c")):
            table.take(number)
            table.save(name)
        for name, row in (("b", (0, 1)), ("c", (0, 1, 2)), ("a", (0,)), ("b", (0, 1))):
            table.restore(name)
            self.assertEqual(table.arms_joined, row)

    def test_snapshots_are_not_part_of_the_state(self):
        table = Table(BOX)
        table.save("a")
        table.take(0)
        table.save("b")
        table.undo()
        table.restore("b")
        table.restore("a")
        table.restore("b")
        self.assertEqual(table.arms_joined, (0,))
        table.save("a")
        table.undo()
        table.restore("a")
        self.assertEqual(table.arms_joined, (0,))

    def test_a_snapshot_can_be_restored_again(self):
        table = Table(BOX)
        table.draw(DOT)
        table.save("a")
        for _ in range(3):
            table.wipe()
            table.take(1)
            table.restore("a")
            self.assertEqual(seen(table), ((), ["draw"], DOT.ink()))

    def test_invalid_name(self):
        table = Table(BOX)
        for wrong in ("", "abcdefghi", "A", "aB", "a1", "a b", " a", "a\n", "\u00e4", "a_b", "-"):
            with self.assertRaises(InvalidName, msg=wrong):
                table.save(wrong)
            with self.assertRaises(UnknownName, msg=wrong):
                table.restore(wrong)
        for name in ("a", "abcdefgh", "zz"):
            table.save(name)

    def test_what_is_no_string(self):
        table = Table(BOX)
        for wrong in (None, 1, True, ("a",), ["a"], b"a"):
            with self.assertRaises(InvalidName):
                table.save(wrong)
            with self.assertRaises(UnknownName):
                table.restore(wrong)

    def test_unknown_name(self):
        table = Table(BOX)
        table.take(0)
        table.save("a")
        table.undo()
        before = all_seen(table)
        for wrong in ("b", "aa", "A", "", "abcdefghi"):
            with self.assertRaises(UnknownName):
                table.restore(wrong)
            self.assertEqual(all_seen(table), before)


ALL_KINDS = [("take", 0), ("draw", DOT), ("undo",), ("redo",), ("wipe",), ("drop",), ("undo",), ("undo",), ("undo",),
             ("redo",), ("take", 2), ("redo",)]
MALFORMED = [
    (), ("take",), ("take", 0, 1), ("drop", 0), ("draw",), ("draw", DOT, DOT), ("wipe", 0), ("undo", 1), ("redo", None),
    ("save", "a"), ("restore", "a"), ("sheet",), ("batch", []), ("Take", 0), ("", ), ("take 0",), ["take", 0], ["drop"],
    "drop", "take", None, 0, True, {"drop": 1}, (0,), (None,), (True, 0), (("take", 0),), (["take"], 0), (DOT,), (b"drop",)]


class Batch(unittest.TestCase):
    def test_all_kinds_of_operations(self):
        table = Table(BOX)
        results = table.batch(ALL_KINDS)
        self.assertEqual(results, [1, Drawing((at(2),)), True, True, ((at(2),), ()), 0, True, True, True, True, 2, False])
        self.assertIsInstance(results, list)
        self.assertEqual(seen(table), ((0, 2), ["take", "draw", "take"], ((at(2),), ())))

    def test_the_same_as_one_after_another(self):
        one, other = Table(BOX), Table(BOX)
        methods = {"take": other.take, "drop": other.drop, "draw": other.draw, "wipe": other.wipe, "undo": other.undo,
                   "redo": other.redo}
        self.assertEqual(one.batch(ALL_KINDS), [methods[word](*rest) for word, *rest in ALL_KINDS])
        self.assertEqual(all_seen(one), all_seen(other))

    def test_each_operation_can_be_undone(self):
        table = Table(BOX)
        table.batch([("take", 0), ("take", 1), ("wipe",)])
        self.assertEqual([table.undo(), table.operations], [True, ["take", "take"]])
        self.assertEqual([table.undo(), table.arms_joined], [True, (0,)])

    def test_no_operations(self):
        table = Table(BOX)
        table.take(0)
        table.undo()
        before = all_seen(table)
        self.assertEqual(table.batch([]), [])
        self.assertEqual(all_seen(table), before)

    def test_nothing_to_undo_is_no_failure(self):
        self.assertEqual(Table(BOX).batch([("undo",), ("redo",), ("undo",)]), [False, False, False])

    def test_invalid_operation(self):
        for wrong in MALFORMED:
            for place in range(3):
                table = Table(BOX)
                operations = [("take", 0), ("wipe",), ("drop",)]
                operations[place] = wrong
                with self.assertRaises(InvalidOperation, msg=wrong) as caught:
                    table.batch(operations)
                self.assertEqual(caught.exception.place, place, wrong)
                self.assertEqual(all_seen(table), [((), [], EMPTY)])

    def test_the_first_malformed_one(self):
        with self.assertRaises(InvalidOperation) as caught:
            Table(BOX).batch([("wipe",), ("take",), ("drop", 0), ()])
        self.assertEqual(caught.exception.place, 1)

    def test_before_anything_is_executed(self):
        table = Table(BOX)
        with self.assertRaises(InvalidOperation) as caught:
            table.batch([("drop",), ("take", 9), ("draw",)])
        self.assertEqual(caught.exception.place, 2)

    def test_an_operation_that_fails(self):
        for wrong, kind in ((("take", 9), UnknownArm), (("take", True), UnknownArm), (("take", 1), NotFree),
                            (("draw", FAR), OutOfReach)):
            table = Table(BOX)
            table.take(0)
            table.draw(DOT)
            table.take(2)
            table.undo()
            before = all_seen(table)
            with self.assertRaises(kind):
                table.batch([("take", 1), ("wipe",), wrong])
            with self.assertRaises(kind):
                table.batch([("undo",), ("undo",), ("take", 1), ("undo",), ("take", 1), wrong])
            with self.assertRaises(NotFree):
                table.batch([("redo",), ("drop",), ("drop",), ("drop",)])
            self.assertEqual(all_seen(table), before)
            self.assertIs(table.redo(), True)
            self.assertEqual(table.arms_joined, (0, 2))

    def test_the_error_is_that_of_the_operation(self):
        table = Table(BOX)
        with self.assertRaises(OutOfReach) as caught:
            table.batch([("take", 0), ("take", 1), ("draw", DOT), ("draw", Drawing((ONE,), (at(2),)))])
        error = caught.exception
        self.assertEqual((error.arm, error.stroke, error.part), (1, 1, 0))

    def test_the_lists_are_the_callers(self):
        table = Table(BOX)
        operations = [("take", 0), ("wipe",)]
        table.batch(operations).clear()
        self.assertEqual(operations, [("take", 0), ("wipe",)])
        operations.clear()
        self.assertEqual(table.operations, ["take", "wipe"])


class Replay(unittest.TestCase):
    def check(self, operations, place):
        with self.assertRaises(InvalidOperation) as caught:
            Table.replay(BOX, operations)
        self.assertEqual(caught.exception.place, place, operations)

    def test_a_table_after_operations(self):
        table = Table.replay(BOX, ALL_KINDS)
        other = Table(BOX)
        other.batch(ALL_KINDS)
        self.assertIsInstance(table, Table)
        self.assertEqual(all_seen(table), all_seen(other))

    def test_no_operations(self):
        self.assertEqual(all_seen(Table.replay(BOX, [])), [((), [], EMPTY)])

    def test_malformed(self):
        for wrong in MALFORMED:
            self.check([wrong], 0)
            self.check([("take", 0), ("drop",), wrong], 2)

    def test_failing(self):
        self.check([("drop",)], 0)
        self.check([("take", 0), ("take", 0)], 1)
        self.check([("take", 0), ("take", 3)], 1)
        self.check([("take", 0), ("draw", DOT), ("draw", FAR), ("drop",)], 2)

    def test_in_order(self):
        self.check([("drop",), ()], 0)
        self.check([(), ("drop",)], 0)
        self.check([("wipe",), ("drop",), ("take",)], 1)
        self.check([("wipe",), ("take",), ("drop",)], 1)

    def test_invalid_box_ahead_of_invalid_operation(self):
        for wrong in NO_BOXES:
            for operations in ([], [()], [("drop",)]):
                with self.assertRaises(InvalidBox):
                    Table.replay(wrong, operations)

    def test_the_list_is_the_callers(self):
        operations = [("take", 0)]
        table = Table.replay(BOX, operations)
        operations.append(("drop",))
        self.assertEqual(table.operations, ["take"])

    def test_the_operations_of_a_class_below(self):
        class Desk(Table):
            pass

        self.assertIsInstance(Desk.replay(BOX, [("take", 0)]), Desk)


class Model:
    """Points 27 and 28 over again: each state is found by executing all operations in effect anew."""

    def __init__(self):
        self.done, self.undone, self.saved = [], [], {}

    def rows_and_strokes(self):
        row, strokes = [], []
        for operation in self.done:
            if operation[0] == "take":
                row.append(operation[1])
            elif operation[0] == "drop":
                row.pop()
            elif operation[0] == "draw":
                strokes += Chain(*[BOX[number] for number in row]).draw(operation[1]).strokes
            else:
                strokes = []
        return row, strokes

    def execute(self, operation):
        if operation[0] == "undo" and self.done:
            self.undone.append(self.done.pop())
        elif operation[0] == "redo" and self.undone:
            self.done.append(self.undone.pop())
        elif operation[0] not in ("undo", "redo"):
            try:
                self.done.append(operation)
                row, strokes = self.rows_and_strokes()
                if len(set(row)) < len(row):
                    raise IndexError
                self.undone = []
            except (IndexError, OutOfReach):
                self.done.pop()

    def state(self):
        row, strokes = self.rows_and_strokes()
        ink = EMPTY
        if strokes:
            groups = [Drawing(*strokes[start:start + 12]) for start in range(0, len(strokes), 12)]
            dots = sorted({dot for group in groups for dot in group.ink()[0]})
            ink = tuple(dots), ()
        return tuple(row), [operation[0] for operation in self.done], ink


class AgainstTheModel(unittest.TestCase):
    def test_many_operations(self):
        source = random.Random(28)
        spots = [Drawing((at(x, y),)) for x in range(-3, 9, 3) for y in (-1, 0, 2)]
        for _ in range(40):
            table, model = Table(BOX), Model()
            for _ in range(40):
                word = source.choice(["take", "take", "drop", "draw", "draw", "wipe", "undo", "undo", "redo", "save", "restore"])
                name = source.choice("abc")
                if word == "save":
                    table.save(name)
                    model.saved[name] = list(model.done), list(model.undone)
                elif word == "restore" and name in model.saved:
                    table.restore(name)
                    model.done, model.undone = [list(part) for part in model.saved[name]]
                elif word != "restore":
                    operation = {"take": (word, source.randint(0, 2)), "draw": (word, source.choice(spots))}.get(word, (word,))
                    model.execute(operation)
                    try:
                        table.batch([operation])
                    except (NotFree, OutOfReach):
                        pass
                self.assertEqual(seen(table), model.state())
