"""Points [1], [2] and [9]: notes, voices, pieces, and what sounds."""

import inspect
import unittest

from helper import CALLS, HUGE, NO_NUMBERS, NO_PIECES, PIECES, Case
from voiceweave import pieces
from voiceweave.errors import BadNumber, BadPiece
from voiceweave.pieces import good, length, sounding


class InterfaceTest(Case):
    def test_each_function_is_defined_here_with_its_arguments(self):
        listed = {"good": ["piece"], "length": ["piece"], "sounding": ["piece", "time"]}
        for name, arguments in listed.items():
            with self.subTest(name=name):
                function = getattr(pieces, name)
                self.assertEqual(function.__module__, "voiceweave.pieces")
                self.assertEqual(list(inspect.signature(function).parameters), arguments)

    def test_arguments_may_be_given_by_name(self):
        piece = [[(0, 4, 60)]]
        self.assertEqual(good(piece=piece), piece)
        self.assertEqual(length(piece=piece), 4)
        self.assertEqual(sounding(piece=piece, time=1), [60])


class GoodTest(Case):
    def test_tells_the_same_piece(self):
        for piece in PIECES:
            self.assert_told(piece, good, piece)

    def test_takes_one_to_six_voices(self):
        for many in range(1, 7):
            self.assert_told([[] for _ in range(many)], good, [[] for _ in range(many)])
            self.assert_told([[(0, 1, 0)] for _ in range(many)], good, [[(0, 1, 0)] for _ in range(many)])
        for many in (0, 7, 8):
            self.assert_refused(BadPiece, good, [[] for _ in range(many)])
            self.assert_refused(BadPiece, good, [[(0, 1, 0)] for _ in range(many)])

    def test_takes_a_note_at_each_limit(self):
        for note in [
            (0, 1, 0), (0, 2, 0), (0, 100000, 0), (1, 99999, 0), (99999, 1, 0), (50000, 50000, 0),
            (0, 1, 200), (0, 1, -200), (0, 1, 199), (0, 1, -199), (0, 100000, -200), (99999, 1, 200),
        ]:
            self.assert_told([[note]], good, [[note]])

    def test_takes_a_note_from_the_end_of_the_one_ahead_on(self):
        self.assert_told([[(0, 4, 1), (4, 1, 2)]], good, [[(0, 4, 1), (4, 1, 2)]])
        self.assert_told([[(0, 4, 1), (5, 1, 2)]], good, [[(0, 4, 1), (5, 1, 2)]])
        self.assert_refused(BadPiece, good, [[(0, 4, 1), (3, 1, 2)]])
        self.assert_told([[(0, 1, 1), (1, 99999, 2)]], good, [[(0, 1, 1), (1, 99999, 2)]])

    def test_takes_notes_of_two_voices_at_one_time(self):
        piece = [[(0, 4, 1), (4, 4, 1)], [(0, 4, 1), (4, 4, 1)], [(3, 4, 9)]]
        self.assert_told(piece, good, piece)

    def test_refuses_whatever_is_no_piece(self):
        for piece in NO_PIECES:
            self.assert_refused(BadPiece, good, piece)


class AllThatTakeAPieceTest(Case):
    def test_refuse_whatever_is_no_piece(self):
        for function, numbers in CALLS:
            self.assert_bad_piece_first(function, *numbers)

    def test_refuse_it_ahead_of_a_wrong_number(self):
        for function, numbers in CALLS:
            if numbers:
                self.assert_bad_piece_first(function, *[None] * len(numbers))
                self.assert_bad_piece_first(function, *[True] * len(numbers))

    def test_refuse_it_ahead_of_a_number_out_of_limits(self):
        for function, numbers in CALLS:
            if numbers:
                self.assert_bad_piece_first(function, *[HUGE] * len(numbers))
                self.assert_bad_piece_first(function, *[-HUGE] * len(numbers))

    def test_tell_new_lists_and_change_nothing(self):
        for function, numbers in CALLS:
            for piece in PIECES:
                # At the axis 0 and the end 100000, and by 0 or 1, each of these pieces stays within the limits.
                self.assert_new(function, piece, *numbers)

    def test_tell_lists_that_may_be_changed(self):
        for function, numbers in CALLS:
            piece = [[(0, 2, 5), (2, 2, 7)], []]
            told = function(piece, *numbers)
            expected = function(piece, *numbers)
            if isinstance(told, list):
                for part in told:
                    if isinstance(part, list):
                        part.append((4, 1, 9))
                told.append(None)
                with self.subTest(function=function.__name__):
                    self.assertEqual(piece, [[(0, 2, 5), (2, 2, 7)], []])
                    self.assertEqual(function(piece, *numbers), expected)


class LengthTest(Case):
    def test_is_the_greatest_end(self):
        self.assert_told(4, length, [[(0, 4, 60)]])
        self.assert_told(13, length, [[(0, 4, 60), (4, 2, 62), (10, 3, 1)]])
        self.assert_told(12, length, [[(0, 4, 67), (4, 4, 65)], [(2, 2, 48), (6, 6, 50)]])
        self.assert_told(20, length, [[(5, 15, 1)], [(18, 1, 1)], [(0, 3, 1)]])
        self.assert_told(30, length, [[(29, 1, 0)], [(0, 29, 0)], []])
        self.assert_told(24, length, PIECES[6])

    def test_is_nought_without_notes(self):
        for many in range(1, 7):
            self.assert_told(0, length, [[] for _ in range(many)])

    def test_passes_over_empty_voices(self):
        self.assert_told(9, length, [[], [(8, 1, 0)], [], []])

    def test_reaches_the_greatest_end(self):
        self.assert_told(100000, length, [[(0, 1, 0)], [(99999, 1, 0)]])
        self.assert_told(100000, length, [[(0, 100000, 0)]])
        self.assert_told(1, length, [[(0, 1, -200)]])


class SoundingTest(Case):
    def test_tells_each_voice_in_its_place(self):
        piece = [[(0, 4, 67), (4, 4, 65)], [(2, 2, 48), (6, 6, 50)], []]
        told = [
            [67, None, None], [67, None, None], [67, 48, None], [67, 48, None],
            [65, None, None], [65, None, None], [65, 50, None], [65, 50, None],
            [None, 50, None], [None, 50, None], [None, 50, None], [None, 50, None],
            [None, None, None],
        ]
        for time, pitches in enumerate(told):
            self.assert_told(pitches, sounding, piece, time)

    def test_a_note_sounds_from_its_start_and_no_more_at_its_end(self):
        piece = [[(3, 4, 9)]]
        for time, pitch in [(2, None), (3, 9), (4, 9), (6, 9), (7, None), (8, None)]:
            self.assert_told([pitch], sounding, piece, time)

    def test_the_later_one_of_two_touching_notes_sounds_where_they_touch(self):
        piece = [[(0, 2, 5), (2, 1, -5), (3, 2, 6)]]
        for time, pitch in [(0, 5), (1, 5), (2, -5), (3, 6), (4, 6), (5, None)]:
            self.assert_told([pitch], sounding, piece, time)

    def test_nothing_sounds_in_a_rest(self):
        piece = [[(0, 2, 5), (4, 2, 6)]]
        for time, pitch in [(1, 5), (2, None), (3, None), (4, 6)]:
            self.assert_told([pitch], sounding, piece, time)

    def test_pitch_nought_and_pitches_below_it_sound(self):
        self.assert_told([0, -1, -200, 200], sounding, [[(0, 1, 0)], [(0, 1, -1)], [(0, 1, -200)], [(0, 1, 200)]], 0)

    def test_six_voices_and_empty_ones(self):
        piece = [[(0, 9, pitch)] for pitch in (5, 4, 3, 2, 1, 0)]
        self.assert_told([5, 4, 3, 2, 1, 0], sounding, piece, 8)
        self.assert_told([None] * 6, sounding, piece, 9)
        for many in range(1, 7):
            self.assert_told([None] * many, sounding, [[] for _ in range(many)], 0)

    def test_nothing_sounds_below_nought_or_behind_all(self):
        for piece in PIECES:
            for time in (-1, -2, -100000, -HUGE, 100000, 100001, HUGE):
                self.assert_told([None] * len(piece), sounding, piece, time)

    def test_the_ends_of_the_greatest_piece(self):
        self.assert_told([200], sounding, [[(0, 100000, 200)]], 0)
        self.assert_told([200], sounding, [[(0, 100000, 200)]], 99999)
        self.assert_told([None, 7], sounding, [[(0, 99999, 5)], [(99999, 1, 7)]], 99999)

    def test_refuses_what_is_no_whole_number(self):
        for time in NO_NUMBERS:
            self.assert_refused(BadNumber, sounding, [[(0, 4, 60)], []], time)
            self.assert_refused(BadNumber, sounding, [[]], time)


if __name__ == "__main__":
    unittest.main()
