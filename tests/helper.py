"""Pieces, wrong inputs and checks that several test files share."""

import copy
import unittest

from voiceweave.errors import BadPiece
from voiceweave.faults import faults
from voiceweave.moving import mirrored, moved, shrunk, stretched, turned
from voiceweave.pieces import good, length, sounding
from voiceweave.texts import written
from voiceweave.weaving import entries_of

HUGE = 10 ** 30

# What stands in the place of a whole number and is none.
NO_NUMBERS = [True, False, None, "", "1", [], [1], {}, {1: 1}, (), (1,), 1.0]

# Ordinary pieces of one to six voices, some of them empty, and pieces at the edges of the limits.
PIECES = [
    [[(0, 4, 60)]],
    [[(0, 4, 60), (4, 2, 62), (9, 1, 64), (10, 3, -7)]],
    [[(0, 4, 67), (4, 4, 65)], [(2, 2, 48), (6, 6, 50)]],
    [[(0, 1, 0)], [], [(5, 5, 12), (20, 10, 14)]],
    [[], [(1, 1, 1)], [(3, 7, 2), (10, 1, 0)], []],
    [[(0, 2, 9)], [(0, 2, 7)], [(0, 2, 5)], [(0, 2, 4)], [(0, 2, 2)]],
    [[(8, 8, 5)], [(0, 16, 4)], [(4, 4, 3), (8, 4, 3)], [(16, 2, 2)], [], [(0, 24, -30)]],
    [[]],
    [[], [], [], [], [], []],
    [[(0, 100000, 200)]],
    [[(99999, 1, -200)], [(0, 1, 200), (1, 99999, -200)]],
]

GOOD_NOTE = (1, 2, 3)

# What is no note that could stand alone in a voice.
NO_NOTES = [
    True, False, None, 0, 7, "", "abc", {}, {0: 0, 1: 1, 2: 2}, [], [0, 1, 0], [(0, 1, 0)],
    (), (0,), (0, 1), (0, 1, 0, 0), ((0, 1, 0),), ((0, 1, 0), (1, 1, 0), (2, 1, 0)),
    (-1, 1, 0), (-1, 2, 0), (-HUGE, 1, 0), (-HUGE, HUGE, 0), (HUGE, 1, 0),
    (0, 0, 0), (1, 0, 0), (0, -1, 0), (5, -1, 0), (0, -HUGE, 0), (0, HUGE, 0), (HUGE, -HUGE, 0),
    (0, 100001, 0), (1, 100000, 0), (100000, 1, 0), (99999, 2, 0), (100001, 1, 0), (100000, 0, 0),
    (0, 1, 201), (0, 1, -201), (0, 1, HUGE), (0, 1, -HUGE),
] + [
    GOOD_NOTE[:place] + (wrong,) + GOOD_NOTE[place + 1:] for place in range(3) for wrong in NO_NUMBERS
]

# What is no voice that could stand alone in a piece.
NO_VOICES = [
    True, False, None, 0, 7, "", "ab", {}, {0: (0, 1, 0)}, (), ((0, 1, 0),), (0, 1, 0),
    [(0, 4, 60), (3, 2, 62)],
    [(0, 4, 60), (0, 4, 60)],
    [(0, 4, 60), (0, 1, 62)],
    [(4, 2, 60), (0, 4, 62)],
    [(4, 2, 60), (0, 1, 62)],
    [(0, 1, 0), (1, 5, 0), (5, 1, 0)],
    [(0, 9, 0), (9, 1, 0), (8, 1, 0)],
    [(0, 100000, 0), (99999, 1, 0)],
] + [
    [wrong] for wrong in NO_NOTES
] + [
    [(0, 1, 0), wrong] for wrong in NO_NOTES
] + [
    [(0, 1, 0), wrong, (50, 2, 0)] for wrong in (None, [2, 2, 0], (2, 2), (2, True, 0), (2, 2, 201), (2, 0, 0))
]

NO_PIECES = [
    True, False, None, 0, 7, "", "ab", {}, {0: []}, (), ([],), ([(0, 1, 0)],), (0, 1, 0),
    [],
    [[]] * 7,
    [[(0, 1, 0)], [(0, 1, 0)], [(0, 1, 0)], [(0, 1, 0)], [(0, 1, 0)], [(0, 1, 0)], [(0, 1, 0)]],
] + [
    [wrong] for wrong in NO_VOICES
] + [
    [[(0, 2, 5), (2, 2, 7)], [], [], [(1, 1, 1)], [], wrong] for wrong in NO_VOICES
] + [
    [wrong, [(0, 2, 5)]] for wrong in NO_VOICES
]


def entries_of_a_note(piece):
    """All entries of a theme of one note in a piece: entries_of with the piece as its first argument."""
    return entries_of([(0, 1, 0)], piece)


# Each function that takes a piece, with numbers that it takes.
CALLS = [
    (good, ()),
    (length, ()),
    (sounding, (0,)),
    (moved, (0, 0)),
    (mirrored, (0,)),
    (turned, (100000,)),
    (stretched, (1,)),
    (shrunk, (1,)),
    (faults, ()),
    (entries_of_a_note, ()),
    (written, ()),
]


class Case(unittest.TestCase):
    """A test case that also looks at the class of a refusal and at what was handed in."""

    def assert_refused(self, error, function, *arguments):
        """The call is refused by exactly this class, and changes nothing that it is handed."""
        before = copy.deepcopy(arguments)
        with self.subTest(function=function.__name__, arguments=arguments):
            with self.assertRaises(error) as caught:
                function(*arguments)
            self.assertIs(type(caught.exception), error)
            self.assertEqual(arguments, before)

    def assert_told(self, expected, function, *arguments):
        """The call tells this, with each number and note of just this kind."""
        with self.subTest(function=function.__name__, arguments=arguments):
            told = function(*arguments)
            self.assertEqual(told, expected)
            # repr tells 1 from True, and a list from a tuple.
            self.assertEqual(repr(told), repr(expected))

    def assert_new(self, function, *arguments):
        """The call tells new lists only, each time, and changes nothing that it is handed."""
        before = copy.deepcopy(arguments)
        with self.subTest(function=function.__name__, arguments=arguments):
            first = function(*arguments)
            second = function(*arguments)
            self.assertEqual(arguments, before)
            self.assertEqual(repr(arguments), repr(before))
            told = [id(one) for one in lists_in(first) + lists_in(second)]
            self.assertEqual(len(set(told)), len(told))
            handed_in = {id(one) for one in lists_in(arguments)}
            self.assertEqual([one for one in told if one in handed_in], [])

    def assert_bad_piece_first(self, function, *arguments):
        """The call is refused with BadPiece for whatever is no piece, with these numbers."""
        for piece in NO_PIECES:
            self.assert_refused(BadPiece, function, piece, *arguments)


def made_pieces(many):
    """So many pieces of one to six voices, the same ones each time, in which notes touch, meet, pass and leap."""
    steps = [0, 1, 1, 2, 2, -1, -1, -2, -2, 3, -3, 7, -7, 12, -12, 13, -13]
    state = 1
    pieces = []
    for count in range(many):
        piece = []
        for voice in range(1 + count % 6):
            notes, time, pitch = [], 0, 12 - 5 * voice
            for _ in range((count + voice) % 8):
                state = (state * 1103515245 + 12345) % 2 ** 31
                time += (0, 0, 0, 0, 0, 0, 1)[state // 64 % 7]
                long = (1, 1, 1, 1, 2, 3)[state // 512 % 6]
                pitch += steps[state // 4096 % len(steps)]
                notes.append((time, long, pitch))
                time += long
            piece.append(notes)
        pieces.append(piece)
    return pieces


def lists_in(value):
    """All lists in a value, itself included."""
    if not isinstance(value, (list, tuple)):
        return []
    found = [value] if isinstance(value, list) else []
    for part in value:
        found += lists_in(part)
    return found
