"""Tables: arms of a box are joined and draw on a sheet, and all of it can be undone.

The state of a table is a tuple (now, done, undone). Now is a pair of the row of the joined arms
and the strokes on the sheet. Done and undone are tuples of (word, before, after), each one an
operation with what was now before and after it: those in effect, and those that can be redone,
the next one last. States are tuples throughout, so that to keep one is enough to go back to it.
"""

from copyarms.boxes import arms_of, check_box
from copyarms.chains import Chain
from copyarms.drawings import ink_of
from copyarms.errors import CopyError, InvalidName, InvalidOperation, NotFree, UnknownArm, UnknownName
from copyarms.names import is_name
from copyarms.spots import is_whole

FIRST_STATE = (((), ()), (), ())
OPERATION_SIZES = {"take": 2, "drop": 1, "draw": 2, "wipe": 1, "undo": 1, "redo": 1}
MOST_LETTERS = 8


class Table:
    """A box of arms, of which some are joined, and a sheet on which they draw."""

    def __init__(self, box):
        check_box(box)
        self.stock = box
        self.state = FIRST_STATE
        self.snapshots = {}

    @property
    def arms_joined(self):
        """The row of the joined arms."""
        now, done, undone = self.state
        return now[0]

    @property
    def operations(self):
        """A new list of the words of all operations in effect, in order."""
        now, done, undone = self.state
        return [word for word, before, after in done]

    def take(self, number):
        """Join an arm behind the last one, and return how many are joined."""
        return self.execute(("take", number))

    def drop(self):
        """Take off the last arm, and return its number."""
        return self.execute(("drop",))

    def draw(self, drawing):
        """Draw a drawing on the sheet by the chain of the joined arms, and return what is drawn."""
        return self.execute(("draw", drawing))

    def wipe(self):
        """Take a new sheet, and return what the old one had on it."""
        return self.execute(("wipe",))

    def undo(self):
        """Undo the last operation that is in effect, and return whether there was one."""
        return self.execute(("undo",))

    def redo(self):
        """Repeat the operation that was undone last, and return whether there was one."""
        return self.execute(("redo",))

    def sheet(self):
        """What is on the sheet."""
        now, done, undone = self.state
        return ink_of(now[1])

    def save(self, name):
        """Save the complete state under a name."""
        if not is_name(name, MOST_LETTERS):
            raise InvalidName("not one to eight letters a to z")
        self.snapshots[name] = self.state

    def restore(self, name):
        """Restore the state that was saved under a name."""
        if not is_name(name, MOST_LETTERS) or name not in self.snapshots:
            raise UnknownName("no snapshot of this name")
        self.state = self.snapshots[name]

    def batch(self, operations):
        """Execute all operations of a list, or none, and return the list of their results."""
        check_operations(operations)
        state = self.state
        results = []
        for operation in operations:
            state, result = executed(self.stock, state, operation)
            results.append(result)
        self.state = state
        return results

    @classmethod
    def replay(cls, box, operations):
        """A table after a list of operations."""
        table = cls(box)
        for place, operation in enumerate(operations):
            try:
                table.batch([operation])
            except CopyError:
                raise InvalidOperation(place) from None
        return table

    def execute(self, operation):
        """Execute an operation, and return its result."""
        state, result = executed(self.stock, self.state, operation)
        self.state = state
        return result


def check_operations(operations):
    """Raise InvalidOperation for the first one that is malformed."""
    for place, operation in enumerate(operations):
        if not is_operation(operation):
            raise InvalidOperation(place)


def is_operation(value):
    """Whether a value is a tuple of the word of an operation and the right number of arguments."""
    if not isinstance(value, tuple) or len(value) == 0 or not isinstance(value[0], str):
        return False
    return OPERATION_SIZES.get(value[0]) == len(value)


def executed(box, state, operation):
    """The state of a table after an operation, and the result of this."""
    word = operation[0]
    if word == "undo":
        return with_one_undone(state)
    if word == "redo":
        return with_one_redone(state)
    now, done, undone = state
    changed, result = change(box, now, operation)
    return (changed, (*done, (word, now, changed)), ()), result


def with_one_undone(state):
    """The state after the last operation is undone, and whether there was one."""
    now, done, undone = state
    if not done:
        return state, False
    word, before, after = done[-1]
    return (before, done[:-1], (*undone, done[-1])), True


def with_one_redone(state):
    """The state after the operation that was undone last is redone, and whether there was one."""
    now, done, undone = state
    if not undone:
        return state, False
    word, before, after = undone[-1]
    return (after, (*done, undone[-1]), undone[:-1]), True


def change(box, now, operation):
    """The row and the strokes on the sheet after an operation, and its result."""
    row, strokes = now
    word = operation[0]
    if word == "take":
        longer = taken(box, row, operation[1])
        return (longer, strokes), len(longer)
    if word == "drop":
        if not row:
            raise NotFree("no arm is joined")
        return (row[:-1], strokes), row[-1]
    if word == "wipe":
        return (row, ()), ink_of(strokes)
    drawn = drawn_by(arms_of(box, row), operation[1])
    added = drawn.strokes
    return (row, (*strokes, *added)), drawn


def taken(box, row, number):
    """The row with one arm more."""
    if not is_whole(number) or not 0 <= number < len(box):
        raise UnknownArm("the box has no arm of this number")
    if number in row:
        raise NotFree("this arm is joined already")
    return (*row, number)


def drawn_by(arms, drawing):
    """What the chain of some arms draws."""
    chain = Chain(*arms)
    return chain.draw(drawing)
