"""The examples of the interface, word for word."""

import unittest

import copyarms.errors

COPIES = '''
>>> from copyarms.copies import Copy
>>> copy = Copy((0, 2, 1), (1, 0, 1))
>>> [copy((3, 1, 1)), (~copy)((1, 0, 1)), copy.growth, (copy >> copy).turn]
[(-1, 6, 1), (0, 0, 1), (4, 1), (-4, 0, 1)]

>>> from copyarms.copies import Copy, kept, order
>>> mirror = Copy((0, 1, 1), (0, 0, 1), mirrored=True)
>>> quarter = Copy((0, 1, 1), (2, 0, 1))
>>> [kept(mirror), order(mirror), kept(quarter), order(quarter)]
[('line', 1, -1, 0), 2, ('spot', (1, 1, 1)), 4]

>>> from copyarms.copies import carriers
>>> found = carriers((((0, 0, 1), (1, 0, 1)), ((2, 0, 1), (1, 4, 1))))
>>> [(copy.turn, copy.shift, copy.mirrored) for copy in found]
[((0, 2, 1), (1, 0, 1), False), ((0, 2, 1), (1, 0, 1), True)]

>>> from copyarms.copies import Copy
>>> Copy((1, 0, 1), (2, 0, 2))
raises InvalidSpot
'''

DRAWINGS = '''
>>> from copyarms.drawings import Drawing
>>> Drawing(((0, 0, 1), (2, 0, 1)), ((1, 0, 1), (3, 0, 1), (3, 1, 1)), ((1, 0, 2),), ((5, 5, 1),)).ink()
(((5, 5, 1),), (((0, 0, 1), (3, 0, 1)), ((3, 0, 1), (3, 1, 1))))

>>> from copyarms.drawings import Drawing, common, measure
>>> one = Drawing(((0, 0, 1), (2, 2, 1)))
>>> other = Drawing(((0, 2, 1), (2, 0, 1)), ((2, 2, 1),))
>>> [common(one, other), measure(Drawing(((0, 0, 1), (1, 3, 2))))]
[(((1, 1, 1), (2, 2, 1)), ()), ((0, 1), (1, 2), (0, 1), (3, 2))]

>>> from copyarms.drawings import area
>>> [area(((0, 0, 1), (2, 0, 1), (2, 1, 1), (0, 0, 1))), area(((0, 0, 1),))]
[(1, 1), (0, 1)]
'''


def outcome(rows):
    """What the last of some rows gives, written as the document writes it."""
    names = {}
    for row in rows[:-1]:
        exec(row, names)
    try:
        return repr(eval(rows[-1], names))
    except copyarms.errors.CopyError as error:
        told = ", ".join([f"{name}={value!r}" for name, value in vars(error).items()])
        return f"raises {error.__class__.__name__}" + (f"({told})" if told else "")


class Examples(unittest.TestCase):
    def check(self, text, count):
        examples = text.strip().split("\n\n")
        self.assertEqual(len(examples), count)
        for example in examples:
            *rows, expected = example.split("\n")
            self.assertEqual(outcome([row.removeprefix(">>> ") for row in rows]), expected, example)

    def test_copies(self):
        self.check(COPIES, 4)

    def test_drawings(self):
        self.check(DRAWINGS, 3)
