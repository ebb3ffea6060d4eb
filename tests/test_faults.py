"""Points [10] to [16]: what a fault is, the four kinds, and the faults of a piece that was moved or turned about."""

import inspect
import itertools
import unittest

from helper import PIECES, Case, made_pieces
from voiceweave import faults as faults_module
from voiceweave.faults import faults
from voiceweave.moving import mirrored, moved, shrunk, stretched, turned
from voiceweave.pieces import length

# What the interval of a meeting leaves, parted by 12, and whether it is harsh.
IS_HARSH = {
    0: False, 1: True, 2: True, 3: False, 4: False, 5: False,
    6: True, 7: False, 8: False, 9: False, 10: True, 11: True,
}

MADE = made_pieces(400)


def notes_that_touch(voice):
    """Each two notes of a voice of which the one starts when the other ends, straight from point [1]."""
    return [(one, two) for one in voice for two in voice if one[0] + one[1] == two[0]]


def passes_by_words(note, voice):
    """Whether a note passes, straight from point [14]."""
    for ahead, touched in notes_that_touch(voice):
        for touching, behind in notes_that_touch(voice):
            if touched == note == touching:
                steps = (note[2] - ahead[2], behind[2] - note[2])
                if steps in [(1, 1), (1, 2), (2, 1), (2, 2), (-1, -1), (-1, -2), (-2, -1), (-2, -2)]:
                    return True
    return False


def faults_of_two_by_words(piece, voice, other):
    """The faults between two voices, straight from points [12] to [15]."""
    found = []
    for high, low in itertools.product(piece[voice], piece[other]):
        times = [time for time in range(high[0], high[0] + high[1]) if low[0] <= time < low[0] + low[1]]
        if times:
            interval = high[2] - low[2]
            if interval < 0:
                found.append((times[0], times[-1] + 1, "cross", voice, other))
            passing = passes_by_words(high, piece[voice]) or passes_by_words(low, piece[other])
            if IS_HARSH[interval % 12] and not passing:
                found.append((times[0], times[-1] + 1, "harsh", voice, other))
    for high, low in itertools.product(notes_that_touch(piece[voice]), notes_that_touch(piece[other])):
        if high[1][0] == low[1][0]:
            ways = (high[1][2] - high[0][2], low[1][2] - low[0][2])
            kept = ((high[0][2] - low[0][2]) % 12, (high[1][2] - low[1][2]) % 12)
            if (min(ways) > 0 or max(ways) < 0) and kept in [(0, 0), (7, 7)]:
                found.append((high[1][0], high[1][0], "along", voice, other))
    return found


def faults_by_words(piece):
    """All faults of a piece, each pair of notes looked at by itself."""
    found = []
    for voice, notes in enumerate(piece):
        for one, two in notes_that_touch(notes):
            if abs(one[2] - two[2]) > 12:
                found.append((two[0], two[0], "leap", voice, voice))
        for other in range(voice + 1, len(piece)):
            found += faults_of_two_by_words(piece, voice, other)
    return sorted(found)


def of_kind(piece, kind):
    return [fault for fault in faults(piece) if fault[2] == kind]


class InterfaceTest(Case):
    def test_the_function_is_defined_here_with_its_argument(self):
        self.assertEqual(faults_module.faults.__module__, "voiceweave.faults")
        self.assertEqual(list(inspect.signature(faults_module.faults).parameters), ["piece"])
        self.assertEqual(faults(piece=[[(0, 1, 0), (1, 1, 13)]]), [(1, 1, "leap", 0, 0)])


class AllFaultsTest(Case):
    """Point [10]."""

    def test_without_notes_there_are_none(self):
        for many in range(1, 7):
            self.assert_told([], faults, [[] for _ in range(many)])

    def test_pieces_without_faults(self):
        self.assert_told([], faults, [[(0, 4, 60)]])
        self.assert_told([], faults, [[(0, 4, 60), (4, 4, 62)], [], [(0, 4, 45), (4, 4, 43)]])
        self.assert_told([], faults, [[(0, 2, 9)], [(2, 2, 9)], [(4, 2, 9)], [(6, 2, 9)], [(8, 2, 9)], [(10, 2, 9)]])

    def test_an_ordinary_piece_of_two_voices(self):
        piece = [[(0, 4, 67), (4, 4, 65)], [(2, 2, 48), (6, 6, 50)]]
        self.assert_told([], faults, piece)
        piece = [[(0, 4, 67), (4, 4, 65), (8, 2, 80)], [(0, 2, 48), (2, 4, 55), (6, 6, 66)]]
        # 67 over 48 and 55 leaves 7 and 0; 65 over 55 leaves 10, under 66 leaves 11; 80 over 66 leaves 2.
        self.assert_told([
            (4, 6, "harsh", 0, 1),
            (6, 8, "cross", 0, 1),
            (6, 8, "harsh", 0, 1),
            (8, 8, "leap", 0, 0),
            (8, 10, "harsh", 0, 1),
        ], faults, piece)

    def test_ordinary_pieces_of_one_to_six_voices(self):
        for piece in PIECES:
            if length(piece) < 100:
                self.assert_told(faults_by_words(piece), faults, piece)
        for piece in MADE:
            self.assert_told(faults_by_words(piece), faults, piece)

    def test_made_pieces_have_faults_of_each_kind(self):
        kinds = {kind: sum(len(of_kind(piece, kind)) for piece in MADE) for kind in ("leap", "cross", "harsh", "along")}
        for kind, many in kinds.items():
            with self.subTest(kind=kind):
                self.assertGreater(many, 20)

    def test_each_once_and_rising(self):
        for piece in MADE:
            with self.subTest(piece=piece):
                told = faults(piece)
                self.assertEqual(told, sorted(set(told)))

    def test_two_times_at_which_the_same_two_voices_fail_are_two_faults(self):
        piece = [[(0, 1, 5), (1, 1, 5), (3, 1, 5)], [(0, 9, 4)]]
        self.assert_told([(0, 1, "harsh", 0, 1), (1, 2, "harsh", 0, 1), (3, 4, "harsh", 0, 1)], faults, piece)

    def test_unlike_kinds_at_one_time_come_in_their_order(self):
        # At 5 the voices 0 and 1 go up along, the voice 2 leaps, and meetings of it cross and are harsh.
        piece = [[(0, 5, 24), (5, 5, 26)], [(0, 5, 12), (5, 5, 14)], [(0, 5, 0), (5, 5, 25)]]
        self.assert_told([
            (5, 5, "along", 0, 1),
            (5, 5, "leap", 2, 2),
            (5, 10, "cross", 1, 2),
            (5, 10, "harsh", 0, 2),
            (5, 10, "harsh", 1, 2),
        ], faults, piece)
        piece = [[(0, 5, 24), (5, 5, 37)], [(0, 5, 12), (5, 5, 25)], [(0, 5, 0), (5, 5, 13)]]
        self.assert_told([
            (5, 5, "along", 0, 1), (5, 5, "along", 0, 2), (5, 5, "along", 1, 2),
            (5, 5, "leap", 0, 0), (5, 5, "leap", 1, 1), (5, 5, "leap", 2, 2),
        ], faults, piece)

    def test_order_goes_by_begin_then_end_then_kind_then_voice_then_other(self):
        # One meeting begins at 0 and ends at 2, one begins at 0 and ends at 10, one begins at 2.
        piece = [[(0, 10, 0)], [(0, 2, 1), (2, 3, 1)], [(0, 10, 2)], [(9, 9, 3)]]
        self.assert_told([
            (0, 2, "cross", 0, 1), (0, 2, "cross", 1, 2), (0, 2, "harsh", 0, 1), (0, 2, "harsh", 1, 2),
            (0, 10, "cross", 0, 2), (0, 10, "harsh", 0, 2),
            (2, 5, "cross", 0, 1), (2, 5, "cross", 1, 2), (2, 5, "harsh", 0, 1), (2, 5, "harsh", 1, 2),
            (9, 10, "cross", 0, 3), (9, 10, "cross", 2, 3), (9, 10, "harsh", 2, 3),
        ], faults, piece)

    def test_times_are_ordered_as_numbers(self):
        piece = [[(0, 9, 0), (9, 1, 20), (10, 90, 0), (100, 1, 20)]]
        told = [(9, 9, "leap", 0, 0), (10, 10, "leap", 0, 0), (100, 100, "leap", 0, 0)]
        self.assert_told(told, faults, piece)

    def test_the_greatest_times_and_pitches(self):
        piece = [[(0, 99999, -200), (99999, 1, 200)], [(0, 99999, 200), (99999, 1, -200)]]
        # An interval of -400 leaves 8, and one of 400 leaves 4.
        self.assert_told([
            (0, 99999, "cross", 0, 1), (99999, 99999, "leap", 0, 0), (99999, 99999, "leap", 1, 1),
        ], faults, piece)


class LeapTest(Case):
    """Point [11]."""

    def test_13_apart_is_a_leap_and_12_is_none(self):
        for step in range(-30, 31):
            expected = [(4, 4, "leap", 0, 0)] if step > 12 or step < -12 else []
            self.assert_told(expected, faults, [[(0, 4, 60), (4, 4, 60 + step)]])
        self.assert_told([], faults, [[(0, 4, 60), (4, 4, 72)]])
        self.assert_told([], faults, [[(0, 4, 60), (4, 4, 48)]])
        self.assert_told([(4, 4, "leap", 0, 0)], faults, [[(0, 4, 60), (4, 4, 73)]])
        self.assert_told([(4, 4, "leap", 0, 0)], faults, [[(0, 4, 60), (4, 4, 47)]])

    def test_across_nought(self):
        self.assert_told([], faults, [[(0, 1, -6), (1, 1, 6)]])
        self.assert_told([(1, 1, "leap", 0, 0)], faults, [[(0, 1, -6), (1, 1, 7)]])

    def test_notes_that_do_not_touch_make_none(self):
        self.assert_told([(4, 4, "leap", 0, 0)], faults, [[(0, 4, 0), (4, 4, 100)]])
        self.assert_told([], faults, [[(0, 4, 0), (5, 4, 100)]])
        self.assert_told([], faults, [[(0, 4, 0), (6, 4, 100)]])

    def test_notes_of_two_voices_make_none(self):
        self.assert_told([], faults, [[(0, 4, 100)], [(4, 4, 0)]])

    def test_a_note_between_takes_the_leap_away(self):
        self.assert_told([], faults, [[(0, 1, 0), (1, 1, 12), (2, 1, 24)]])

    def test_tells_its_voice_twice(self):
        for many in range(1, 7):
            for place in range(many):
                piece = [[] for _ in range(many)]
                piece[place] = [(3, 2, 0), (5, 1, 13), (6, 2, 0), (9, 1, 13)]
                self.assert_told([(5, 5, "leap", place, place), (6, 6, "leap", place, place)], faults, piece)


class MeetTest(Case):
    """Point [12]; the notes are 1 apart, so that each meeting crosses and is harsh."""

    def assert_meet(self, begin, end, first, second):
        piece = [[first + (0,)], [second + (1,)]]
        self.assert_told([(begin, end, "cross", 0, 1), (begin, end, "harsh", 0, 1)], faults, piece)

    def test_notes_that_only_touch_each_other_do_not_meet(self):
        self.assert_told([], faults, [[(0, 2, 0)], [(2, 2, 1)]])
        self.assert_told([], faults, [[(2, 2, 0)], [(0, 2, 1)]])
        self.assert_told([], faults, [[(0, 2, 0)], [(3, 2, 1)]])
        self.assert_told([], faults, [[(3, 2, 0)], [(0, 2, 1)]])

    def test_notes_that_sound_together_at_one_time_alone(self):
        self.assert_meet(2, 3, (0, 3), (2, 3))
        self.assert_meet(2, 3, (2, 3), (0, 3))
        self.assert_meet(7, 8, (7, 1), (7, 1))
        self.assert_meet(7, 8, (0, 99), (7, 1))
        self.assert_meet(7, 8, (7, 1), (0, 99))

    def test_begins_at_the_greater_start_and_ends_at_the_lesser_end(self):
        self.assert_meet(3, 5, (0, 5), (3, 4))
        self.assert_meet(3, 5, (3, 4), (0, 5))
        self.assert_meet(3, 5, (3, 2), (0, 9))
        self.assert_meet(3, 5, (0, 9), (3, 2))
        self.assert_meet(3, 5, (3, 2), (3, 2))
        self.assert_meet(3, 5, (3, 9), (3, 2))
        self.assert_meet(3, 5, (3, 2), (3, 9))
        self.assert_meet(3, 5, (0, 5), (3, 2))
        self.assert_meet(3, 5, (3, 2), (0, 5))

    def test_all_small_places_of_two_notes(self):
        for start, long, begin, many in itertools.product(range(5), range(1, 5), range(5), range(1, 5)):
            piece = [[(start, long, 0)], [(begin, many, 1)]]
            self.assert_told(faults_by_words(piece), faults, piece)

    def test_one_note_meets_several(self):
        low = [(0, 2, 1), (2, 2, 1), (5, 2, 1), (7, 1, 1), (8, 1, 1)]
        told = [(begin, end, "cross", 0, 1) for begin, end in [(1, 2), (2, 4), (5, 7), (7, 8)]]
        self.assert_told(told, of_kind, [[(1, 7, 0)], low], "cross")
        self.assert_told(told, of_kind, [low, [(1, 7, 2)]], "cross")

    def test_each_two_of_six_voices(self):
        piece = [[(0, 4, voice * 3)] for voice in range(6)]
        told = [(0, 4, "cross", voice, other) for voice in range(6) for other in range(voice + 1, 6)]
        self.assert_told(told, of_kind, piece, "cross")

    def test_an_empty_voice_meets_none(self):
        self.assert_told([(0, 4, "cross", 1, 3)], faults, [[], [(0, 4, 0)], [], [(0, 4, 3)], []])


class CrossTest(Case):
    """Point [13]."""

    def test_an_interval_below_nought_crosses(self):
        for interval in (-1, -2, -3, -12, -13, -24, -300):
            self.assert_told([(0, 4, "cross", 0, 1)], of_kind, [[(0, 4, interval + 100)], [(0, 4, 100)]], "cross")
        for interval in (0, 1, 2, 3, 12, 13, 24, 300):
            self.assert_told([], of_kind, [[(0, 4, interval - 100)], [(0, 4, -100)]], "cross")

    def test_the_upper_voice_is_the_one_with_the_lesser_place(self):
        self.assert_told([(0, 4, "cross", 0, 1)], faults, [[(0, 4, 60)], [(0, 4, 63)]])
        self.assert_told([], faults, [[(0, 4, 63)], [(0, 4, 60)]])
        self.assert_told([(0, 4, "cross", 1, 2)], faults, [[], [(0, 4, 60)], [(0, 4, 63)]])

    def test_a_note_that_passes_crosses_all_the_same(self):
        piece = [[(0, 1, 60), (1, 1, 61), (2, 1, 62)], [(1, 1, 63)]]
        self.assert_told([(1, 2, "cross", 0, 1)], faults, piece)

    def test_only_the_meetings_that_cross(self):
        piece = [[(0, 2, 60), (2, 2, 63), (4, 2, 60)], [(0, 1, 57), (1, 4, 63), (5, 1, 57)]]
        self.assert_told([(1, 2, "cross", 0, 1), (4, 5, "cross", 0, 1)], faults, piece)


class HarshTest(Case):
    """Point [14], of notes that do not pass."""

    def test_each_interval(self):
        for interval in range(-60, 61):
            expected = [(0, 4, "cross", 0, 1)] if interval < 0 else []
            if IS_HARSH[interval % 12]:
                expected.append((0, 4, "harsh", 0, 1))
            self.assert_told(expected, faults, [[(0, 4, interval)], [(0, 4, 0)]])

    def test_intervals_below_nought_leave_0_to_11_too(self):
        for interval in (-1, -2, -6, -10, -11, -13, -14, -18, -22, -23):
            self.assert_told([(0, 4, "harsh", 0, 1)], of_kind, [[(0, 4, 60 + interval)], [(0, 4, 60)]], "harsh")
        for interval in (-3, -4, -5, -7, -8, -9, -12, -15, -16, -17, -19, -20, -21, -24):
            self.assert_told([], of_kind, [[(0, 4, 60 + interval)], [(0, 4, 60)]], "harsh")

    def test_each_meeting_for_itself(self):
        piece = [[(0, 3, 60), (3, 3, 64)], [(0, 2, 58), (2, 2, 48), (4, 2, 63)]]
        self.assert_told([(0, 2, "harsh", 0, 1), (4, 6, "harsh", 0, 1)], of_kind, piece, "harsh")

    def test_each_two_voices(self):
        piece = [[(0, 4, 24)], [], [(0, 4, 17)], [(1, 2, 11)]]
        self.assert_told([(1, 3, "harsh", 0, 3), (1, 3, "harsh", 2, 3)], faults, piece)


class PassingTest(Case):
    """Point [14]: whether the note at 2, of pitch 62, passes, so that its meeting is not harsh."""

    def assert_passes(self, passes, voice):
        """Beside the voice stands one note that meets the note at 2 alone, 2 below it or 2 above it."""
        told = [] if passes else [(2, 4, "harsh", 0, 1)]
        self.assert_told(told, faults, [voice, [(2, 2, 60)]])
        self.assert_told(told, faults, [[(2, 2, 64)], voice])

    def test_each_step_ahead_and_behind(self):
        up, down = [1, 2], [-1, -2]
        for first, second in itertools.product(range(-5, 6), range(-5, 6)):
            passes = first in up and second in up or first in down and second in down
            self.assert_passes(passes, [(0, 2, 62 - first), (2, 2, 62), (4, 2, 62 + second)])

    def test_up_and_down_by_1_and_by_2(self):
        for first, second in [(61, 63), (60, 63), (61, 64), (60, 64), (63, 61), (64, 61), (63, 60), (64, 60)]:
            self.assert_passes(True, [(0, 2, first), (2, 2, 62), (4, 2, second)])

    def test_not_by_0_nor_by_3(self):
        for first, second in [(62, 63), (61, 62), (62, 62), (59, 63), (61, 65), (65, 61), (63, 59), (62, 61), (63, 62)]:
            self.assert_passes(False, [(0, 2, first), (2, 2, 62), (4, 2, second)])

    def test_not_one_way_and_then_the_other(self):
        for first, second in [(61, 61), (60, 60), (61, 60), (60, 61), (63, 63), (64, 64), (63, 64), (64, 63)]:
            self.assert_passes(False, [(0, 2, first), (2, 2, 62), (4, 2, second)])

    def test_not_by_an_octave_more(self):
        self.assert_passes(False, [(0, 2, 51), (2, 2, 62), (4, 2, 63)])
        self.assert_passes(False, [(0, 2, 61), (2, 2, 62), (4, 2, 74)])

    def test_not_first_or_last_or_alone_in_its_voice(self):
        self.assert_passes(False, [(2, 2, 62), (4, 2, 63)])
        self.assert_passes(False, [(2, 2, 62), (4, 2, 63), (6, 2, 64)])
        self.assert_passes(False, [(0, 2, 61), (2, 2, 62)])
        self.assert_passes(False, [(0, 1, 60), (1, 1, 61), (2, 2, 62)])
        self.assert_passes(False, [(2, 2, 62)])

    def test_not_with_a_gap_ahead_or_behind(self):
        self.assert_passes(True, [(1, 1, 61), (2, 2, 62), (4, 1, 63)])
        self.assert_passes(False, [(0, 1, 61), (2, 2, 62), (4, 1, 63)])
        self.assert_passes(False, [(1, 1, 61), (2, 2, 62), (5, 1, 63)])
        self.assert_passes(False, [(0, 1, 61), (2, 2, 62), (5, 1, 63)])

    def test_the_notes_around_may_be_of_any_long(self):
        self.assert_passes(True, [(0, 1, 55), (1, 1, 61), (2, 2, 62), (4, 50, 63), (54, 1, 60)])

    def test_the_note_that_passes_may_be_of_either_voice_or_of_both(self):
        passing, standing = [(0, 2, 61), (2, 2, 62), (4, 2, 63)], [(2, 2, 60)]
        self.assert_told([], faults, [passing, standing])
        self.assert_told([(2, 4, "cross", 0, 1)], faults, [standing, passing])
        both = [[(0, 2, 61), (2, 2, 62), (4, 2, 64)], [(0, 2, 49), (2, 2, 51), (4, 2, 52)]]
        self.assert_told([], of_kind, both, "harsh")

    def test_only_the_meetings_of_the_note_that_passes_are_spared(self):
        # The same long note meets the notes ahead and behind of the one that passes, too.
        voice = [(0, 2, 71), (2, 2, 73), (4, 2, 74)]
        told = [(0, 2, "harsh", 0, 1), (4, 6, "harsh", 0, 1)]
        self.assert_told(told, faults, [voice, [(0, 6, 60)]])
        self.assert_told(told, faults, [[(0, 6, 84)], voice])

    def test_a_row_of_notes_that_pass(self):
        piece = [[(time, 1, 60 + time) for time in range(7)], [(0, 7, 54)]]
        # 60 over 54 leaves 6, as the first note, and 66 over 54 leaves 0; those between them pass.
        self.assert_told([(0, 1, "harsh", 0, 1)], faults, piece)

    def test_a_note_that_passes_in_a_third_voice_spares_none(self):
        piece = [[(2, 2, 62)], [(2, 2, 60)], [(0, 2, 49), (2, 2, 50), (4, 2, 51)]]
        self.assert_told([(2, 4, "harsh", 0, 1)], faults, piece)


class AlongTest(Case):
    """Point [15]."""

    def assert_along(self, along, high, low):
        """The upper voice goes between these two pitches at 4, the other one between those two."""
        piece = [[(0, 4, high[0]), (4, 4, high[1])], [(0, 4, low[0]), (4, 4, low[1])]]
        self.assert_told([(4, 4, "along", 0, 1)] if along else [], of_kind, piece, "along")

    def test_an_interval_of_0_kept_up_and_down(self):
        for step in (1, 2, 3, 5, 12, 13, 20, -1, -2, -3, -12, -13, -20):
            self.assert_along(True, (60, 60 + step), (60, 60 + step))
            self.assert_along(True, (60, 60 + step), (48, 48 + step))
            self.assert_along(True, (60, 60 + step), (72, 72 + step))
            self.assert_along(True, (60, 60 + step), (24, 24 + step))

    def test_an_interval_of_7_kept_up_and_down(self):
        for step in (1, 2, 3, 5, 12, 13, 20, -1, -2, -3, -12, -13, -20):
            self.assert_along(True, (67, 67 + step), (60, 60 + step))
            self.assert_along(True, (67, 67 + step), (48, 48 + step))
            self.assert_along(True, (60, 60 + step), (65, 65 + step))

    def test_an_octave_off(self):
        self.assert_along(True, (60, 62), (48, 62))
        self.assert_along(True, (60, 74), (48, 50))
        self.assert_along(True, (62, 60), (62, 48))
        self.assert_along(True, (67, 69), (48, 62))
        self.assert_along(True, (67, 82), (60, 63))
        self.assert_along(True, (60, 62), (53, 67))
        # From 7 to an interval of -5 and back.
        self.assert_along(True, (67, 69), (60, 74))
        self.assert_along(True, (69, 67), (74, 60))

    def test_no_other_interval(self):
        for kept in range(-30, 31):
            for step in (1, -2):
                self.assert_along(kept % 12 in [0, 7], (60 + kept, 60 + kept + step), (60, 60 + step))
        self.assert_along(False, (60, 62), (67, 69))
        self.assert_along(False, (65, 67), (60, 62))

    def test_not_from_one_interval_to_another(self):
        for before, behind in itertools.product(range(-12, 25), range(-12, 25)):
            along = before % 12 == behind % 12 and before % 12 in [0, 7]
            # The steps of both voices go up, by at least 1.
            self.assert_along(along, (50 + before, 90 + behind), (50, 90))

    def test_not_where_one_goes_up_and_one_goes_down(self):
        self.assert_along(False, (60, 66), (48, 42))
        self.assert_along(False, (60, 54), (36, 42))
        self.assert_along(False, (67, 73), (60, 54))

    def test_not_where_one_goes_nowhere_or_both(self):
        self.assert_along(False, (60, 72), (48, 48))
        self.assert_along(False, (60, 60), (48, 36))
        self.assert_along(False, (60, 60), (36, 48))
        self.assert_along(False, (72, 60), (48, 48))
        self.assert_along(False, (60, 60), (48, 48))
        self.assert_along(False, (67, 67), (60, 60))

    def test_both_voices_must_touch_at_that_time(self):
        high, low = [(0, 4, 60), (4, 4, 62)], [(0, 4, 48), (4, 4, 50)]
        self.assert_told([(4, 4, "along", 0, 1)], of_kind, [high, low], "along")
        for other in (
            [(0, 3, 48), (4, 4, 50)], [(0, 3, 48), (3, 5, 50)], [(0, 5, 48), (5, 4, 50)], [(4, 4, 50)], [(0, 4, 48)],
            [(0, 4, 48), (5, 3, 50)], [],
        ):
            self.assert_told([], of_kind, [high, other], "along")
            self.assert_told([], of_kind, [other, high], "along")

    def test_the_notes_may_start_and_end_at_unlike_times(self):
        piece = [[(0, 5, 60), (5, 1, 62)], [(4, 1, 48), (5, 9, 50)]]
        self.assert_told([(5, 5, "along", 0, 1)], of_kind, piece, "along")

    def test_each_time_for_itself(self):
        pitches = [60, 62, 62, 64, 60, 61]
        piece = [[(time, 1, pitch) for time, pitch in enumerate(pitches)] for _ in range(2)]
        told = [(time, time, "along", 0, 1) for time in (1, 3, 4, 5)]
        self.assert_told(told, faults, piece)

    def test_each_two_of_six_voices(self):
        piece = [[(0, 1, 40 - 12 * voice), (1, 1, 43 - 12 * voice)] for voice in range(6)]
        told = [(1, 1, "along", voice, other) for voice in range(6) for other in range(voice + 1, 6)]
        self.assert_told(told, faults, piece)
        piece = [[(0, 1, 47), (1, 1, 49)], [], [], [(0, 1, 40), (1, 1, 42)], []]
        self.assert_told([(1, 1, "along", 0, 3)], faults, piece)


class MovedFaultsTest(Case):
    """Point [16]."""

    def assert_faults(self, change, piece, other):
        """The faults of the other piece are those of the first one, each with this change."""
        with self.subTest(piece=piece):
            self.assertEqual(faults(other), sorted(change(*fault) for fault in faults(piece)))

    def test_moved(self):
        for piece in MADE:
            other = moved(piece, 17, -30)
            self.assert_faults(lambda b, e, kind, v, w: (b + 17, e + 17, kind, v, w), piece, other)
            self.assert_faults(lambda b, e, kind, v, w: (b - 17, e - 17, kind, v, w), other, moved(other, -17, 7))

    def test_stretched_and_shrunk(self):
        for piece in MADE:
            other = stretched(piece, 6)
            self.assert_faults(lambda b, e, kind, v, w: (b * 6, e * 6, kind, v, w), piece, other)
            self.assert_faults(lambda b, e, kind, v, w: (b // 3, e // 3, kind, v, w), other, shrunk(other, 3))

    def test_mirrored(self):
        for piece in MADE:
            last = len(piece) - 1
            for axis in (0, 35):
                self.assert_faults(
                    lambda b, e, kind, v, w: (b, e, kind, last - w, last - v), piece, mirrored(piece, axis))

    def test_turned(self):
        for piece in MADE:
            for end in (length(piece), length(piece) + 9):
                self.assert_faults(lambda b, e, kind, v, w: (end - e, end - b, kind, v, w), piece, turned(piece, end))

    def test_two_of_them_one_behind_the_other(self):
        for piece in MADE:
            last = len(piece) - 1
            self.assert_faults(
                lambda b, e, kind, v, w: (90 - e, 90 - b, kind, last - w, last - v),
                piece, turned(mirrored(piece, 5), 90))
            self.assert_faults(
                lambda b, e, kind, v, w: (2 * (b + 3), 2 * (e + 3), kind, v, w),
                piece, stretched(moved(piece, 3, 3), 2))
            self.assert_faults(
                lambda b, e, kind, v, w: (b * 4 + 1, e * 4 + 1, kind, last - w, last - v),
                piece, mirrored(moved(stretched(piece, 4), 1, 0), -3))
            self.assert_faults(lambda *fault: fault, piece, mirrored(mirrored(piece, 40), -40))
            self.assert_faults(lambda *fault: fault, piece, turned(turned(piece, 60), 60))


if __name__ == "__main__":
    unittest.main()
