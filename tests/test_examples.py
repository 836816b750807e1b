"""The examples of the interface, word for word."""

import unittest

import copyarms.errors

COPIES = '''
>>> from copyarms.copies import Copy
>>> copy = Copy((0, 2, 1), (1, 0, 1))
>>> [copy((3, 1, 1)), (~copy)((1, 0, 1)), copy.growth, (copy >> copy).turn]
[(-1, 6, 1), (0, 0, 1), (4, 1), (-4, 0, 1)]

>>> from copyarms.copies import Copy, kept, order
>>> mirror = Copy((0, 1, 1), (0, 0, 1), mirrored=True)
>>> quarter = Copy((0, 1, 1), (2, 0, 1))
>>> [kept(mirror), order(mirror), kept(quarter), order(quarter)]
[('line', 1, -1, 0), 2, ('spot', (1, 1, 1)), 4]

>>> from copyarms.copies import carriers
>>> found = carriers((((0, 0, 1), (1, 0, 1)), ((2, 0, 1), (1, 4, 1))))
>>> [(copy.turn, copy.shift, copy.mirrored) for copy in found]
[((0, 2, 1), (1, 0, 1), False), ((0, 2, 1), (1, 0, 1), True)]

>>> from copyarms.copies import Copy
>>> Copy((1, 0, 1), (2, 0, 2))
raises InvalidSpot
'''

DRAWINGS = '''
>>> from copyarms.drawings import Drawing
>>> Drawing(((0, 0, 1), (2, 0, 1)), ((1, 0, 1), (3, 0, 1), (3, 1, 1)), ((1, 0, 2),), ((5, 5, 1),)).ink()
(((5, 5, 1),), (((0, 0, 1), (3, 0, 1)), ((3, 0, 1), (3, 1, 1))))

>>> from copyarms.drawings import Drawing, common, measure
>>> one = Drawing(((0, 0, 1), (2, 2, 1)))
>>> other = Drawing(((0, 2, 1), (2, 0, 1)), ((2, 2, 1),))
>>> [common(one, other), measure(Drawing(((0, 0, 1), (1, 3, 2))))]
[(((1, 1, 1), (2, 2, 1)), ()), ((0, 1), (1, 2), (0, 1), (3, 2))]

>>> from copyarms.drawings import area
>>> [area(((0, 0, 1), (2, 0, 1), (2, 1, 1), (0, 0, 1))), area(((0, 0, 1),))]
[(1, 1), (0, 1)]
'''

ARMS = '''
>>> from copyarms.arms import Arm, trace
>>> from copyarms.drawings import Drawing
>>> arm = Arm((1, 0, 1), (2, 0, 1), 0, 2)
>>> copy = arm.effect
>>> [copy((2, 1, 1)), arm.reaches((3, 0, 1)), trace(arm, Drawing(((1, 1, 1), (2, 0, 1))))[0]]
[(3, 2, 1), True, ((1, 2, 1), (3, 0, 1))]

>>> from copyarms.arms import Arm, trace
>>> from copyarms.drawings import Drawing
>>> arm = Arm((0, 0, 1), (1, 0, 1), 1, 5)
>>> trace(arm, Drawing(((3, 0, 1), (3, 1, 1)), ((-2, 0, 1), (2, 0, 1))))
raises OutOfReach(arm=0, stroke=1, part=0)
'''

CHAINS = '''
>>> from copyarms.arms import Arm
>>> from copyarms.chains import Chain, single, zones
>>> chain = Chain(Arm((0, 0, 1), (2, 0, 1), 0, 9), Arm((4, 0, 1), (0, 1, 1), 1, 9))
>>> copy = chain.effect
>>> [copy((1, 0, 1)), zones(chain), single(chain).pole]
[(4, -2, 1), [((0, 0, 1), (0, 1), (81, 1)), ((2, 0, 1), (1, 4), (81, 4))], (12, 4, 5)]

>>> from copyarms.arms import Arm
>>> from copyarms.chains import Chain, reachable_spots
>>> reachable_spots(Chain(Arm((0, 0, 1), (1, 0, 1), 1, 1)), 2)
[(-1, 0, 1), (0, -1, 1), (0, 1, 1), (1, 0, 1)]

>>> from copyarms.arms import Arm
>>> from copyarms.chains import Chain
>>> from copyarms.drawings import Drawing
>>> chain = Chain(Arm((0, 0, 1), (2, 0, 1), 0, 9), Arm((4, 0, 1), (0, 1, 1), 1, 9))
>>> chain.draw(Drawing(((2, 0, 1),)))
raises OutOfReach(arm=1, stroke=0, part=0)
'''

REPEATS = '''
>>> from copyarms.copies import Copy
>>> from copyarms.drawings import Drawing
>>> from copyarms.repeats import first_within, repeated_ink
>>> half = Copy((1, 0, 2), (0, 0, 1))
>>> line = Drawing(((4, 0, 1), (8, 0, 1)))
>>> [repeated_ink(half, line, 2), first_within(half, line, Drawing(((0, 0, 1), (3, 0, 1))), 5)]
[((), (((1, 0, 1), (8, 0, 1)),)), 2]
'''

LIKENESS = '''
>>> from copyarms.drawings import Drawing
>>> from copyarms.likeness import symmetries, ways
>>> square = Drawing(((0, 0, 1), (1, 0, 1), (1, 1, 1), (0, 1, 1), (0, 0, 1)))
>>> [len(symmetries(square)), symmetries(Drawing(((3, 3, 1),))), ways(square, Drawing(((0, 0, 1), (2, 0, 1))))]
[8, None, []]
'''

WEBS = '''
>>> from copyarms.drawings import Drawing
>>> from copyarms.webs import least_strokes, pieces, regions
>>> cross = Drawing(((0, 0, 1), (2, 2, 1)), ((0, 2, 1), (2, 0, 1)), ((9, 9, 1),))
>>> square = Drawing(((0, 0, 1), (1, 0, 1), (1, 1, 1), (0, 1, 1), (0, 0, 1)))
>>> [pieces(cross), regions(cross), least_strokes(cross), pieces(square), regions(square), least_strokes(square)]
[2, 1, 3, 1, 2, 1]
'''

BOXES = '''
>>> from copyarms.arms import Arm
>>> from copyarms.boxes import copy_count, drawable_rows, rows_for
>>> from copyarms.copies import Copy
>>> from copyarms.drawings import Drawing
>>> box = (Arm((0, 0, 1), (2, 0, 1), 0, 9), Arm((0, 0, 1), (1, 0, 2), 0, 9))
>>> [copy_count(box), rows_for(box, Copy((1, 0, 1), (0, 0, 1))), drawable_rows(box, Drawing(((8, 0, 1),)))]
[3, [(), (0, 1), (1, 0)], [(), (0,), (1,), (1, 0)]]
'''

POLES = '''
>>> from copyarms.poles import poles
>>> pairs = (((1, 0, 1), (3, 0, 1)),)
>>> [poles((2, 0, 1), pairs), poles((1, 0, 1), pairs), poles((-1, 0, 1), pairs, mirrored=True)]
[('spot', (-1, 0, 1)), ('none',), ('line', 1, 0, 2)]
'''

GUESSES = '''
>>> from copyarms.arms import Arm
>>> from copyarms.guesses import Guess
>>> box = (Arm((0, 0, 1), (2, 0, 1), 0, 9), Arm((0, 0, 1), (1, 0, 2), 0, 9))
>>> guess = Guess(box, 2)
>>> [guess.see((4, 0, 1), (4, 0, 1)), guess.candidates, guess.copies_left, guess.answers((8, 0, 1))]
[3, [(), (0, 1), (1, 0)], 1, [None, (8, 0, 1)]]
'''

NOTATION = r'''
>>> from copyarms.drawings import Drawing
>>> from copyarms.notation import format_drawing, picture
>>> [format_drawing(Drawing(((0, 0, 1), (1, -3, 2)), ((5, 5, 1),))), picture(Drawing(((-1, -1, 1), (1, 1, 1))), 1)]
['0,0 1,-3,2 / 5,5', '..#\n.#.\n#..']

>>> from copyarms.notation import parse_drawing
>>> parse_drawing("0,0 / 2,2,2")
raises BadText(row=0, word=2)
'''

SCRIPTS = r'''
>>> from copyarms.scripts import Script
>>> script = Script("arm a 0,0 2,0 0 9\nink b 1,0 2,0\ncopy c b a\njoin d b c")
>>> [script.names, script.drawing("c").strokes, script.needs("c"), script.drawing("d").ink()]
[['b', 'c', 'd'], (((2, 0, 1), (4, 0, 1)),), [0, 1, 2], ((), (((1, 0, 1), (4, 0, 1)),))]

>>> from copyarms.scripts import Script
>>> Script("ink b 1,0\ncopy c b a")
raises BadRow(row=1, reason='name')
'''

CODES = r'''
>>> from copyarms.codes import encode
>>> from copyarms.drawings import Drawing
>>> encode(Drawing(((0, -300, 1),)))
[67, 1, 1, 0, 0, 1, 2, 1, 44, 0, 1, 1, 241]

>>> from copyarms.codes import decode
>>> decode([67, 1, 1, 0, 1, 0])
raises InvalidCode(place=5)
'''

TABLES = r'''
>>> from copyarms.arms import Arm
>>> from copyarms.drawings import Drawing
>>> from copyarms.tables import Table
>>> table = Table((Arm((0, 0, 1), (2, 0, 1), 0, 9),))
>>> [table.take(0), table.draw(Drawing(((1, 0, 1), (2, 0, 1)))).strokes, table.undo(), table.sheet(), table.operations]
[1, (((2, 0, 1), (4, 0, 1)),), True, ((), ()), ['take']]

>>> from copyarms.arms import Arm
>>> from copyarms.tables import Table
>>> Table((Arm((0, 0, 1), (2, 0, 1), 0, 9),)).drop()
raises NotFree
'''


def outcome(rows):
    """What the last of some rows gives, written as the document writes it."""
    names = {}
    for row in rows[:-1]:
        exec(row, names)
    try:
        return repr(eval(rows[-1], names))
    except copyarms.errors.CopyError as error:
        told = ", ".join([f"{name}={value!r}" for name, value in vars(error).items()])
        return f"raises {error.__class__.__name__}" + (f"({told})" if told else "")


class Examples(unittest.TestCase):
    def check(self, text, count):
        examples = text.strip().split("\n\n")
        self.assertEqual(len(examples), count)
        for example in examples:
            *rows, expected = example.split("\n")
            self.assertEqual(outcome([row.removeprefix(">>> ") for row in rows]), expected, example)

    def test_copies(self):
        self.check(COPIES, 4)

    def test_drawings(self):
        self.check(DRAWINGS, 3)

    def test_arms(self):
        self.check(ARMS, 2)

    def test_chains(self):
        self.check(CHAINS, 3)

    def test_repeats(self):
        self.check(REPEATS, 1)

    def test_likeness(self):
        self.check(LIKENESS, 1)

    def test_webs(self):
        self.check(WEBS, 1)

    def test_boxes(self):
        self.check(BOXES, 1)

    def test_poles(self):
        self.check(POLES, 1)

    def test_guesses(self):
        self.check(GUESSES, 1)

    def test_notation(self):
        self.check(NOTATION, 2)

    def test_scripts(self):
        self.check(SCRIPTS, 2)

    def test_codes(self):
        self.check(CODES, 2)

    def test_tables(self):
        self.check(TABLES, 2)
