"""Points [3] to [8]: a piece moved, mirrored, turned, stretched and shrunk."""

import inspect
import unittest

from helper import HUGE, NO_NUMBERS, PIECES, Case
from voiceweave import moving
from voiceweave.errors import BadNumber, OutOfRange, Uneven
from voiceweave.moving import mirrored, moved, shrunk, stretched, turned
from voiceweave.pieces import length

DUET = [[(0, 4, 67), (4, 4, 65)], [(2, 2, 48), (6, 6, 50)]]
NO_TIMES = NO_NUMBERS + [0, -1, -2, -1000, 1001, 1002, HUGE, -HUGE]

# Its last note ends last and stands lowest, so it alone is the first to go too far.
LOW_LAST = [[(5, 1, 0), (9, 1, 0)], [], [(7, 2, 0)], [(5, 2, 0)], [(5, 5, 0)], [(6, 1, 0), (11, 1, -20)]]


class InterfaceTest(Case):
    def test_each_function_is_defined_here_with_its_arguments(self):
        listed = {
            "moved": ["piece", "later", "higher"],
            "mirrored": ["piece", "axis"],
            "turned": ["piece", "end"],
            "stretched": ["piece", "times"],
            "shrunk": ["piece", "times"],
        }
        for name, arguments in listed.items():
            with self.subTest(name=name):
                function = getattr(moving, name)
                self.assertEqual(function.__module__, "voiceweave.moving")
                self.assertEqual(list(inspect.signature(function).parameters), arguments)

    def test_arguments_may_be_given_by_name(self):
        piece = [[(2, 4, 60)]]
        self.assertEqual(moved(higher=-5, later=1, piece=piece), [[(3, 4, 55)]])
        self.assertEqual(mirrored(axis=100, piece=piece), [[(2, 4, 40)]])
        self.assertEqual(turned(end=7, piece=piece), [[(1, 4, 60)]])
        self.assertEqual(stretched(times=3, piece=piece), [[(6, 12, 60)]])
        self.assertEqual(shrunk(times=2, piece=piece), [[(1, 2, 60)]])


class MovedTest(Case):
    def test_each_note_starts_later_and_stands_higher(self):
        self.assert_told([[(3, 4, 65)]], moved, [[(0, 4, 60)]], 3, 5)
        self.assert_told([[(10, 4, 60), (14, 4, 58)], [(12, 2, 41), (16, 6, 43)]], moved, DUET, 10, -7)
        self.assert_told([[], [(0, 1, 3)], [(2, 7, 4), (9, 1, 2)], []], moved, PIECES[4], -1, 2)

    def test_later_and_higher_may_be_nought(self):
        for piece in PIECES:
            self.assert_told(piece, moved, piece, 0, 0)
        self.assert_told([[(2, 4, 60)]], moved, [[(0, 4, 60)]], 2, 0)
        self.assert_told([[(0, 4, 62)]], moved, [[(0, 4, 60)]], 0, 2)

    def test_six_voices_keep_their_places(self):
        piece = [[(1, 1, pitch)] for pitch in (9, 7, 5, 4, 2, 0)]
        self.assert_told([[(0, 1, pitch)] for pitch in (8, 6, 4, 3, 1, -1)], moved, piece, -1, -1)

    def test_a_start_may_go_down_to_nought(self):
        self.assert_told([[(0, 2, 0), (3, 1, 0)]], moved, [[(5, 2, 0), (8, 1, 0)]], -5, 0)
        for later in (-6, -7, -HUGE):
            self.assert_refused(OutOfRange, moved, [[(5, 2, 0), (8, 1, 0)]], later, 0)
        self.assert_refused(OutOfRange, moved, [[(8, 1, 0)], [(5, 2, 0)]], -6, 0)

    def test_an_end_may_go_up_to_100000(self):
        self.assert_told([[(99990, 2, 0), (99999, 1, 0)]], moved, [[(0, 2, 0), (9, 1, 0)]], 99990, 0)
        for later in (99991, 99999, 100000, HUGE):
            self.assert_refused(OutOfRange, moved, [[(0, 2, 0), (9, 1, 0)]], later, 0)
        self.assert_refused(OutOfRange, moved, [[(0, 100000, 0)]], 1, 0)
        self.assert_refused(OutOfRange, moved, [[(0, 100000, 0)]], -1, 0)

    def test_a_pitch_may_go_up_to_200_and_down_to_minus_200(self):
        self.assert_told([[(0, 1, 200)], [(0, 1, 150)]], moved, [[(0, 1, 60)], [(0, 1, 10)]], 0, 140)
        self.assert_told([[(0, 1, -150)], [(0, 1, -200)]], moved, [[(0, 1, 60)], [(0, 1, 10)]], 0, -210)
        for higher in (141, HUGE, -211, -HUGE):
            self.assert_refused(OutOfRange, moved, [[(0, 1, 60)], [(0, 1, 10)]], 0, higher)
        self.assert_told([[(0, 1, 200)]], moved, [[(0, 1, -200)]], 0, 400)
        self.assert_refused(OutOfRange, moved, [[(0, 1, -200)]], 0, 401)

    def test_one_note_out_of_range_is_enough(self):
        self.assert_refused(OutOfRange, moved, LOW_LAST, 0, -181)
        self.assert_refused(OutOfRange, moved, LOW_LAST, 99989, 0)

    def test_without_notes_each_whole_number_will_do(self):
        for later in (0, -1, 100001, HUGE, -HUGE):
            for higher in (0, 401, -401, HUGE, -HUGE):
                self.assert_told([[], []], moved, [[], []], later, higher)

    def test_refuses_what_is_no_whole_number(self):
        for wrong in NO_NUMBERS:
            for piece in (DUET, [[]]):
                for number in (0, 1, HUGE, -HUGE):
                    self.assert_refused(BadNumber, moved, piece, wrong, number)
                    self.assert_refused(BadNumber, moved, piece, number, wrong)
                self.assert_refused(BadNumber, moved, piece, wrong, wrong)


class MirroredTest(Case):
    def test_each_pitch_goes_to_the_other_side_and_the_last_voice_comes_first(self):
        self.assert_told([[(0, 4, 60)]], mirrored, [[(0, 4, 60)]], 120)
        self.assert_told([[(0, 4, -50)]], mirrored, [[(0, 4, 60)]], 10)
        self.assert_told([[(2, 2, 52), (6, 6, 50)], [(0, 4, 33), (4, 4, 35)]], mirrored, DUET, 100)
        self.assert_told([[(5, 5, -22), (20, 10, -24)], [], [(0, 1, -10)]], mirrored, PIECES[3], -10)

    def test_at_the_axis_nought(self):
        self.assert_told([[(0, 1, -7), (1, 1, 0), (2, 1, 7)]], mirrored, [[(0, 1, 7), (1, 1, 0), (2, 1, -7)]], 0)

    def test_six_voices_come_in_the_other_order(self):
        piece = [[(voice, 1, voice)] for voice in range(6)]
        told = [[(voice, 1, -voice)] for voice in (5, 4, 3, 2, 1, 0)]
        self.assert_told(told, mirrored, piece, 0)

    def test_a_pitch_may_go_up_to_200_and_down_to_minus_200(self):
        piece = [[(0, 1, 60)], [(0, 1, 10)]]
        self.assert_told([[(0, 1, 200)], [(0, 1, 150)]], mirrored, piece, 210)
        self.assert_told([[(0, 1, -150)], [(0, 1, -200)]], mirrored, piece, -140)
        for axis in (211, HUGE, -141, -HUGE):
            self.assert_refused(OutOfRange, mirrored, piece, axis)
        self.assert_told([[(0, 1, 200)]], mirrored, [[(0, 1, 200)]], 400)
        self.assert_refused(OutOfRange, mirrored, [[(0, 1, 200)]], 401)

    def test_one_note_out_of_range_is_enough(self):
        self.assert_refused(OutOfRange, mirrored, LOW_LAST, 181)
        self.assert_refused(OutOfRange, mirrored, LOW_LAST[::-1], 181)

    def test_without_notes_each_whole_number_will_do(self):
        for axis in (0, 401, -401, HUGE, -HUGE):
            self.assert_told([[], [], []], mirrored, [[], [], []], axis)

    def test_refuses_what_is_no_whole_number(self):
        for wrong in NO_NUMBERS:
            self.assert_refused(BadNumber, mirrored, DUET, wrong)
            self.assert_refused(BadNumber, mirrored, [[]], wrong)
            self.assert_refused(BadNumber, mirrored, [[(0, 1, -200), (1, 1, 200)]], wrong)


class TurnedTest(Case):
    def test_each_note_starts_at_the_end_less_its_own_end(self):
        self.assert_told([[(0, 4, 60)]], turned, [[(0, 4, 60)]], 4)
        self.assert_told([[(3, 4, 60)]], turned, [[(2, 4, 60)]], 9)
        self.assert_told([[(1, 4, 60)]], turned, [[(2, 4, 60)]], 7)

    def test_notes_come_the_other_way_round_and_voices_keep_their_places(self):
        self.assert_told([[(4, 4, 65), (8, 4, 67)], [(0, 6, 50), (8, 2, 48)]], turned, DUET, 12)
        self.assert_told([[(39, 1, 0)], [], [(10, 10, 14), (30, 5, 12)]], turned, PIECES[3], 40)
        piece = [[(voice, 1, voice)] for voice in range(6)]
        self.assert_told([[(5 - voice, 1, voice)] for voice in range(6)], turned, piece, 6)

    def test_the_end_may_be_as_low_as_the_greatest_end(self):
        for piece in PIECES:
            told = turned(piece, length(piece))
            starts = [note[0] for voice in told for note in voice]
            self.assertEqual(min(starts, default=0), 0)
            if starts:
                for end in (length(piece) - 1, 0, -1, -HUGE):
                    self.assert_refused(OutOfRange, turned, piece, end)

    def test_the_end_may_be_as_high_as_100000_and_the_least_start(self):
        self.assert_told([[(99996, 1, 2), (99998, 2, 1)]], turned, [[(5, 2, 1), (8, 1, 2)]], 100005)
        for end in (100006, 100010, HUGE):
            self.assert_refused(OutOfRange, turned, [[(5, 2, 1), (8, 1, 2)]], end)
        self.assert_told([[(0, 100000, 1)]], turned, [[(0, 100000, 1)]], 100000)
        self.assert_refused(OutOfRange, turned, [[(0, 100000, 1)]], 100001)
        self.assert_refused(OutOfRange, turned, [[(0, 100000, 1)]], 99999)

    def test_one_note_out_of_range_is_enough(self):
        self.assert_refused(OutOfRange, turned, LOW_LAST, 11)
        self.assert_refused(OutOfRange, turned, LOW_LAST[::-1], 11)

    def test_without_notes_each_whole_number_will_do(self):
        for end in (0, -1, 100001, HUGE, -HUGE):
            self.assert_told([[], []], turned, [[], []], end)

    def test_refuses_what_is_no_whole_number(self):
        for wrong in NO_NUMBERS:
            self.assert_refused(BadNumber, turned, DUET, wrong)
            self.assert_refused(BadNumber, turned, [[]], wrong)
            self.assert_refused(BadNumber, turned, [[(0, 1, 5)]], wrong)


class StretchedTest(Case):
    def test_each_start_and_each_long_is_times_so_many(self):
        self.assert_told([[(0, 12, 60)]], stretched, [[(0, 4, 60)]], 3)
        self.assert_told([[(0, 8, 67), (8, 8, 65)], [(4, 4, 48), (12, 12, 50)]], stretched, DUET, 2)
        self.assert_told([[(0, 7, 0)], [], [(35, 35, 12), (140, 70, 14)]], stretched, PIECES[3], 7)

    def test_six_voices_keep_their_places(self):
        piece = [[(voice, 1, voice)] for voice in range(6)]
        self.assert_told([[(voice * 9, 9, voice)] for voice in range(6)], stretched, piece, 9)

    def test_times_from_1_to_1000(self):
        for piece in PIECES:
            self.assert_told(piece, stretched, piece, 1)
        self.assert_told([[(99000, 1000, 5)]], stretched, [[(99, 1, 5)]], 1000)
        self.assert_told([[(1998, 999, 5)]], stretched, [[(2, 1, 5)]], 999)

    def test_an_end_may_go_up_to_100000(self):
        self.assert_told([[(0, 100000, 5)]], stretched, [[(0, 100, 5)]], 1000)
        self.assert_refused(OutOfRange, stretched, [[(0, 101, 5)]], 1000)
        self.assert_refused(OutOfRange, stretched, [[(100, 1, 5)]], 1000)
        self.assert_told([[(0, 99999, 5)]], stretched, [[(0, 33333, 5)]], 3)
        self.assert_refused(OutOfRange, stretched, [[(0, 33334, 5)]], 3)
        self.assert_refused(OutOfRange, stretched, [[(99999, 1, 5)]], 2)

    def test_one_note_out_of_range_is_enough(self):
        piece = [[(0, 1, 0)], [], [(3, 1, 0)], [(0, 2, 0), (99, 2, 0)]]
        self.assert_refused(OutOfRange, stretched, piece, 1000)
        self.assert_refused(OutOfRange, stretched, piece[::-1], 1000)

    def test_without_notes_each_of_1_to_1000_will_do(self):
        for times in (1, 2, 999, 1000):
            self.assert_told([[], []], stretched, [[], []], times)

    def test_refuses_other_numbers_and_what_is_none(self):
        for wrong in NO_TIMES:
            for piece in (DUET, [[]], [[(99999, 1, 5)]]):
                self.assert_refused(BadNumber, stretched, piece, wrong)


class ShrunkTest(Case):
    def test_each_start_and_each_long_is_parted_by_so_many(self):
        self.assert_told([[(0, 4, 60)]], shrunk, [[(0, 12, 60)]], 3)
        self.assert_told([[(0, 2, 67), (2, 2, 65)], [(1, 1, 48), (3, 3, 50)]], shrunk, DUET, 2)
        self.assert_told([[], [(4, 1, -9), (5, 2, 9)]], shrunk, [[], [(20, 5, -9), (25, 10, 9)]], 5)

    def test_six_voices_keep_their_places(self):
        piece = [[(voice * 9, 9, voice)] for voice in range(6)]
        self.assert_told([[(voice, 1, voice)] for voice in range(6)], shrunk, piece, 9)

    def test_times_from_1_to_1000(self):
        for piece in PIECES:
            self.assert_told(piece, shrunk, piece, 1)
        self.assert_told([[(99, 1, 5)]], shrunk, [[(99000, 1000, 5)]], 1000)
        self.assert_told([[(0, 100, 5)]], shrunk, [[(0, 100000, 5)]], 1000)
        self.assert_told([[(2, 1, 5)]], shrunk, [[(1998, 999, 5)]], 999)

    def test_a_start_that_cannot_be_parted_is_uneven(self):
        self.assert_refused(Uneven, shrunk, [[(3, 4, 60)]], 2)
        self.assert_refused(Uneven, shrunk, [[(1, 4, 60)]], 4)
        self.assert_refused(Uneven, shrunk, [[(999, 1000, 60)]], 1000)
        self.assert_refused(Uneven, shrunk, [[(1001, 1000, 60)]], 1000)

    def test_a_long_that_cannot_be_parted_is_uneven(self):
        self.assert_refused(Uneven, shrunk, [[(4, 3, 60)]], 2)
        self.assert_refused(Uneven, shrunk, [[(0, 1, 60)]], 2)
        self.assert_refused(Uneven, shrunk, [[(0, 1, 60)]], 1000)
        self.assert_refused(Uneven, shrunk, [[(1000, 999, 60)]], 1000)

    def test_a_start_and_a_long_that_can_be_parted_only_together_are_uneven(self):
        self.assert_refused(Uneven, shrunk, [[(1, 1, 60)]], 2)
        self.assert_refused(Uneven, shrunk, [[(3, 7, 60)]], 10)

    def test_one_uneven_note_is_enough(self):
        for last in ((8, 3, 0), (9, 2, 0)):
            piece = [[(0, 2, 0)], [], [(4, 2, 0)], [(0, 2, 0), (2, 6, 0), last]]
            self.assert_refused(Uneven, shrunk, piece, 2)
            self.assert_refused(Uneven, shrunk, piece[::-1], 2)

    def test_a_pitch_need_not_be_parted(self):
        self.assert_told([[(1, 1, 61), (2, 1, -7)]], shrunk, [[(2, 2, 61), (4, 2, -7)]], 2)

    def test_without_notes_each_of_1_to_1000_will_do(self):
        for times in (1, 2, 999, 1000):
            self.assert_told([[], []], shrunk, [[], []], times)

    def test_refuses_other_numbers_and_what_is_none(self):
        for wrong in NO_TIMES:
            for piece in (DUET, [[]], [[(3, 5, 5)]]):
                self.assert_refused(BadNumber, shrunk, piece, wrong)


class BackTest(Case):
    """Point [8]: a piece is what it was."""

    def test_moved_back_by_the_opposite_numbers(self):
        piece = [[(20, 4, 60), (24, 2, 62)], [], [(21, 9, -40)]]
        for later in (-20, -1, 0, 1, 99970):
            for higher in (-160, -1, 0, 1, 138):
                with self.subTest(later=later, higher=higher):
                    self.assertEqual(moved(moved(piece, later, higher), -later, -higher), piece)

    def test_mirrored_at_the_same_axis_again(self):
        for piece in PIECES:
            for axis in (-1, 0, 1, 60, 120):
                if all(abs(axis - note[2]) <= 200 for voice in piece for note in voice):
                    with self.subTest(piece=piece, axis=axis):
                        self.assertEqual(mirrored(mirrored(piece, axis), axis), piece)

    def test_turned_at_the_same_end_again(self):
        for piece in PIECES:
            for end in (length(piece), 100000):
                with self.subTest(piece=piece, end=end):
                    self.assertEqual(turned(turned(piece, end), end), piece)

    def test_stretched_and_shrunk_by_the_same_number(self):
        for piece in PIECES:
            for times in (1, 2, 3, 7, 10, 999, 1000):
                if length(piece) * times <= 100000:
                    with self.subTest(piece=piece, times=times):
                        self.assertEqual(shrunk(stretched(piece, times), times), piece)

    def test_shrunk_and_stretched_by_the_same_number(self):
        piece = [[(0, 1000, 5), (3000, 2000, -5)], [], [(7000, 1000, 0)]]
        for times in (1, 2, 5, 8, 500, 1000):
            with self.subTest(times=times):
                self.assertEqual(stretched(shrunk(piece, times), times), piece)


if __name__ == "__main__":
    unittest.main()
