"""Points [17] to [19]: themes put in four ways, woven into a piece, and found in one."""

import inspect
import itertools
import unittest

from helper import HUGE, NO_NUMBERS, NO_PIECES, NO_VOICES, PIECES, Case, made_pieces
from voiceweave import weaving
from voiceweave.errors import BadEntry, BadPiece, BadTheme, Clash, OutOfRange
from voiceweave.weaving import entries_of, woven

WAYS = ("as", "mirrored", "turned", "both")

# A theme with rests, of first start 0 and last end 9, and what it is in each way.
THEME = [(0, 2, 5), (2, 1, 7), (5, 4, 4)]
FORMS = {
    "as": [(0, 2, 5), (2, 1, 7), (5, 4, 4)],
    "mirrored": [(0, 2, -5), (2, 1, -7), (5, 4, -4)],
    "turned": [(0, 4, 4), (6, 1, 7), (7, 2, 5)],
    "both": [(0, 4, -4), (6, 1, -7), (7, 2, -5)],
}

# What is no theme: what is no voice, and a voice without notes.
NO_THEMES = NO_VOICES + [[]]

# Each is no entry of a piece of three voices.
NO_ENTRIES = [
    True, False, None, 0, 7, "", "as", {}, {0: 0, 1: 0, 2: 0, 3: "as"}, [], [0, 0, 0, "as"], [(0, 0, 0, "as")],
    (), (0,), (0, 0), (0, 0, 0), (0, 0, "as"), (0, 0, 0, "as", 0), (0, 0, 0, "as", "as"), (0, 0, 0, 0, "as"),
    ((0, 0, 0, "as"),), ("as", 0, 0, 0), (0, "as", 0, 0), (0, 0, "as", 0),
    (3, 0, 0, "as"), (4, 0, 0, "as"), (6, 0, 0, "as"), (-1, 0, 0, "as"), (-3, 0, 0, "as"), (HUGE, 0, 0, "as"),
    (-HUGE, 0, 0, "as"),
] + [
    (0, 0, 0)[:place] + (wrong,) + (0, 0, 0)[place + 1:] + ("as",) for place in range(3) for wrong in NO_NUMBERS
] + [
    (0, 0, 0, wrong) for wrong in NO_NUMBERS + [
        0, 1, "As", "AS", "as ", " as", "a", "s", "is", "mirror", "turn", "shrunk", "as both", "asboth", "mirrored\n",
        ("as",), ["as"], {"as": "as"}, b"as", ("as", "both"),
    ]
]


def put_by_words(theme, way):
    """The notes of a theme in a way, by their starts, straight from point [17]."""
    first, last = theme[0][0], theme[-1][0] + theme[-1][1]
    notes = theme
    if way in ("mirrored", "both"):
        notes = [(start, long, -pitch) for start, long, pitch in notes]
    if way in ("turned", "both"):
        notes = [(first + last - (start + long), long, pitch) for start, long, pitch in notes]
    return sorted(notes)


def entries_by_words(theme, piece):
    """All entries of a theme in a piece: each that puts some note on some other one is tried by itself."""
    found = set()
    for (place, voice), way in itertools.product(enumerate(piece), WAYS):
        notes = put_by_words(theme, way)
        for one, two in itertools.product(voice, notes):
            later, higher = one[0] - two[0], one[2] - two[2]
            if all((start + later, long, pitch + higher) in voice for start, long, pitch in notes):
                found.add((place, later, higher, way))
    return sorted(found)


class InterfaceTest(Case):
    def test_each_function_is_defined_here_with_its_arguments(self):
        listed = {"woven": ["theme", "many", "entries"], "entries_of": ["theme", "piece"]}
        for name, arguments in listed.items():
            with self.subTest(name=name):
                function = getattr(weaving, name)
                self.assertEqual(function.__module__, "voiceweave.weaving")
                self.assertEqual(list(inspect.signature(function).parameters), arguments)

    def test_arguments_may_be_given_by_name(self):
        piece = woven(entries=[(1, 3, 2, "as")], many=2, theme=[(0, 1, 5)])
        self.assertEqual(piece, [[], [(3, 1, 7)]])
        told = [(1, 3, 2, "as"), (1, 3, 2, "turned"), (1, 3, 12, "both"), (1, 3, 12, "mirrored")]
        self.assertEqual(entries_of(piece=piece, theme=[(0, 1, 5)]), told)


class WovenTest(Case):
    """Points [17] and [18]: what comes of a theme and its entries."""

    def test_each_way(self):
        for way in WAYS:
            self.assert_told([FORMS[way]], woven, THEME, 1, [(0, 0, 0, way)])
            self.assert_told([[], put_by_words(THEME, way), []], woven, THEME, 3, [(1, 0, 0, way)])

    def test_each_way_later_and_higher(self):
        for way in WAYS:
            told = [(start + 100, long, pitch - 30) for start, long, pitch in FORMS[way]]
            self.assert_told([[], told], woven, THEME, 2, [(1, 100, -30, way)])

    def test_a_theme_that_does_not_start_at_nought(self):
        theme = [(3, 2, 5), (5, 1, 7), (8, 4, 4)]
        for way in WAYS:
            told = [(start + 3, long, pitch) for start, long, pitch in FORMS[way]]
            self.assert_told([told], woven, theme, 1, [(0, 0, 0, way)])
            self.assert_told([FORMS[way]], woven, theme, 1, [(0, -3, 0, way)])

    def test_a_theme_of_one_note(self):
        theme = [(6, 3, 20)]
        for way, pitch in [("as", 20), ("mirrored", -20), ("turned", 20), ("both", -20)]:
            self.assert_told([[(6, 3, pitch)]], woven, theme, 1, [(0, 0, 0, way)])
            self.assert_told([[], [(0, 3, pitch + 1)]], woven, theme, 2, [(1, -6, 1, way)])

    def test_one_to_six_voices_and_an_entry_in_each(self):
        for many in range(1, 7):
            entries = [(place, place, -place, "as") for place in range(many)]
            told = [[(start + place, long, pitch - place) for start, long, pitch in THEME] for place in range(many)]
            self.assert_told(told, woven, THEME, many, entries)

    def test_without_entries_all_voices_are_empty(self):
        for many in range(1, 7):
            self.assert_told([[] for _ in range(many)], woven, THEME, many, [])

    def test_entries_at_one_time_in_unlike_voices(self):
        told = [[(0, 2, 1)], [(0, 2, 1)], [], [(0, 2, 1)]]
        self.assert_told(told, woven, [(0, 2, 1)], 4, [(3, 0, 0, "as"), (0, 0, 0, "as"), (1, 0, 0, "as")])

    def test_notes_come_by_their_starts(self):
        entries = [(0, 20, 0, "as"), (0, 0, 0, "as"), (0, 10, 0, "as")]
        told = [[(0, 1, 9), (1, 1, 3), (10, 1, 9), (11, 1, 3), (20, 1, 9), (21, 1, 3)]]
        for order in itertools.permutations(entries):
            self.assert_told(told, woven, [(0, 1, 9), (1, 1, 3)], 1, list(order))

    def test_entries_that_touch(self):
        told = [[(0, 2, 5), (2, 1, 7), (5, 4, 4), (9, 2, 5), (11, 1, 7), (14, 4, 4)]]
        self.assert_told(told, woven, THEME, 1, [(0, 0, 0, "as"), (0, 9, 0, "as")])
        self.assert_told(told, woven, THEME, 1, [(0, 9, 0, "as"), (0, 0, 0, "as")])
        self.assert_told([[(0, 1, 5), (1, 1, 9)]], woven, [(0, 1, 5)], 1, [(0, 1, 4, "turned"), (0, 0, 0, "as")])

    def test_entries_that_interlock(self):
        theme = [(0, 1, 0), (3, 1, 2)]
        told = [[(0, 1, 0), (1, 1, 0), (2, 1, 0), (3, 1, 2), (4, 1, 2), (5, 1, 2)]]
        self.assert_told(told, woven, theme, 1, [(0, 0, 0, "as"), (0, 2, 0, "as"), (0, 1, 0, "as")])
        # The rest of each one holds a note of the other.
        theme = [(0, 2, 5), (4, 1, 9)]
        told = [[(4, 2, 5), (6, 1, -9), (8, 1, 9), (9, 2, -5)]]
        self.assert_told(told, woven, theme, 1, [(0, 4, 0, "as"), (0, 6, 0, "both")])

    def test_the_widest_limits(self):
        self.assert_told([[(0, 100000, 200)]], woven, [(0, 100000, 200)], 1, [(0, 0, 0, "as")])
        self.assert_told([[(0, 100000, -200)]], woven, [(0, 100000, 200)], 1, [(0, 0, 0, "mirrored")])
        self.assert_told([[(0, 100000, 200)]], woven, [(0, 100000, -200)], 1, [(0, 0, 0, "both")])
        self.assert_told([[(0, 1, 200)]], woven, [(99999, 1, -200)], 1, [(0, -99999, 400, "as")])
        self.assert_told([[(99999, 1, 200)]], woven, [(0, 1, 200)], 1, [(0, 99999, 400, "mirrored")])

    def test_tells_new_lists_and_changes_nothing(self):
        for theme in (THEME, [(5, 1, 0)]):
            for entries in ([], [(0, 0, 0, "as")], [(1, 20, 0, "as"), (1, 0, 1, "both"), (0, 3, 3, "turned")]):
                self.assert_new(woven, theme, 2, entries)
        # A theme put as it is in the only voice is not that voice itself.
        told = woven(THEME, 1, [(0, 0, 0, "as")])
        told[0].append(None)
        self.assertEqual(THEME, FORMS["as"])
        self.assertEqual(woven(THEME, 1, [(0, 0, 0, "as")]), [FORMS["as"]])


class WovenRefusesTest(Case):
    """Point [18]: what is refused, and in which order."""

    def test_what_is_no_theme(self):
        for theme in NO_THEMES:
            self.assert_refused(BadTheme, woven, theme, 2, [(0, 0, 0, "as")])
            self.assert_refused(BadTheme, woven, theme, 2, [])

    def test_what_is_no_theme_ahead_of_all_else(self):
        for theme in NO_THEMES:
            self.assert_refused(BadTheme, woven, theme, 0, [])
            self.assert_refused(BadTheme, woven, theme, None, [None])
            self.assert_refused(BadTheme, woven, theme, 2, [(2, 0, 0, "as")])
            self.assert_refused(BadTheme, woven, theme, 2, [(0, HUGE, 0, "as")])
            self.assert_refused(BadTheme, woven, theme, 2, [(0, 0, 0, "as"), (0, 0, 0, "as")])

    def test_many_that_is_no_whole_number_from_1_to_6(self):
        for many in NO_NUMBERS + [0, 7, 8, -1, -6, HUGE, -HUGE]:
            self.assert_refused(BadPiece, woven, THEME, many, [])
            self.assert_refused(BadPiece, woven, THEME, many, [(0, 0, 0, "as")])
            self.assert_refused(BadPiece, woven, THEME, many, [None])
            self.assert_refused(BadPiece, woven, THEME, many, [(0, -1, 0, "as")])
            self.assert_refused(BadPiece, woven, THEME, many, [(0, 0, 0, "as"), (0, 0, 0, "as")])

    def test_what_is_no_entry(self):
        for entry in NO_ENTRIES:
            self.assert_refused(BadEntry, woven, THEME, 3, [entry])
            self.assert_refused(BadEntry, woven, THEME, 3, [(0, 0, 0, "as"), entry])
            self.assert_refused(BadEntry, woven, THEME, 3, [entry, (0, 0, 0, "as")])

    def test_the_place_of_a_voice_that_is_not_there(self):
        for many in range(1, 7):
            for place in range(many):
                told = [[] for _ in range(many)]
                told[place] = FORMS["as"]
                self.assert_told(told, woven, THEME, many, [(place, 0, 0, "as")])
            for place in (many, many + 1, -1, -many):
                self.assert_refused(BadEntry, woven, THEME, many, [(place, 0, 0, "as")])

    def test_a_note_too_early_or_too_late_by_one(self):
        theme = [(10, 2, 0), (15, 1, 0), (18, 7, 0)]
        for way in WAYS:
            for later in (-10, -9, 99974, 99975):
                told = [(start + later, long, pitch) for start, long, pitch in put_by_words(theme, way)]
                self.assert_told([told], woven, theme, 1, [(0, later, 0, way)])
            for later in (-11, -12, -HUGE, 99976, 99977, HUGE):
                self.assert_refused(OutOfRange, woven, theme, 1, [(0, later, 0, way)])

    def test_a_note_too_high_or_too_low_by_one(self):
        theme = [(0, 1, 0), (1, 1, 60), (2, 1, -20)]
        for way in ("as", "turned"):
            for higher in (140, -180):
                told = [(start, long, pitch + higher) for start, long, pitch in put_by_words(theme, way)]
                self.assert_told([told], woven, theme, 1, [(0, 0, higher, way)])
            for higher in (141, HUGE, -181, -HUGE):
                self.assert_refused(OutOfRange, woven, theme, 1, [(0, 0, higher, way)])
        for way in ("mirrored", "both"):
            for higher in (180, -140):
                told = [(start, long, pitch + higher) for start, long, pitch in put_by_words(theme, way)]
                self.assert_told([told], woven, theme, 1, [(0, 0, higher, way)])
            for higher in (181, HUGE, -141, -HUGE):
                self.assert_refused(OutOfRange, woven, theme, 1, [(0, 0, higher, way)])

    def test_a_wrong_entry_ahead_of_a_note_out_of_range_in_it(self):
        for entry in [(3, -1, 0, "as"), (0, -1, 0, "is"), (0, True, 999, "as"), (0, -1, None, "as"), (0, -1, 0)]:
            self.assert_refused(BadEntry, woven, THEME, 3, [entry])

    def test_entry_by_entry(self):
        for wrong in NO_ENTRIES:
            self.assert_refused(BadEntry, woven, THEME, 3, [wrong, (0, -1, 0, "as")])
            self.assert_refused(OutOfRange, woven, THEME, 3, [(0, -1, 0, "as"), wrong])
            self.assert_refused(OutOfRange, woven, THEME, 3, [(0, 0, 0, "as"), (1, 0, 999, "both"), wrong])
            self.assert_refused(BadEntry, woven, THEME, 3, [(0, 0, 0, "as"), wrong, (1, 0, 999, "both")])

    def test_two_notes_that_sound_at_one_time(self):
        theme = [(0, 3, 5)]
        for start, way in itertools.product((8, 9, 10, 11, 12), WAYS):
            entries = [(0, 10, 0, "as"), (0, start, 0, way)]
            self.assert_refused(Clash, woven, theme, 1, entries)
            self.assert_refused(Clash, woven, theme, 1, entries[::-1])
        for start in (8, 9, 10, 11, 12):
            entries = [(0, 10, 0, "as"), (1, start, 0, "as")]
            self.assert_told([[(10, 3, 5)], [(start, 3, 5)]], woven, theme, 2, entries)
        for start in (7, 13):
            told = [sorted([(10, 3, 5), (start, 3, 5)])]
            self.assert_told(told, woven, theme, 1, [(0, 10, 0, "as"), (0, start, 0, "as")])

    def test_the_same_entry_twice_clashes(self):
        for way in WAYS:
            self.assert_refused(Clash, woven, THEME, 1, [(0, 0, 0, way)] * 2)
        self.assert_refused(Clash, woven, [(0, 1, 0)], 2, [(1, 0, 0, "as"), (0, 0, 0, "as"), (1, 0, 0, "turned")])

    def test_some_notes_of_two_entries_clash(self):
        theme = [(0, 1, 0), (3, 1, 2)]
        self.assert_refused(Clash, woven, theme, 1, [(0, 0, 0, "as"), (0, 3, 0, "as")])
        self.assert_refused(Clash, woven, theme, 3, [(2, 3, 0, "as"), (0, 0, 0, "as"), (2, 0, 0, "as")])
        self.assert_refused(Clash, woven, [(0, 9, 0), (20, 1, 0)], 1, [(0, 0, 0, "as"), (0, 4, 0, "turned")])

    def test_a_clash_behind_all_else(self):
        clash = [(0, 0, 0, "as"), (0, 1, 0, "as")]
        self.assert_refused(Clash, woven, THEME, 3, clash)
        for wrong in NO_ENTRIES:
            self.assert_refused(BadEntry, woven, THEME, 3, clash + [wrong])
        for wrong in ((1, -1, 0, "as"), (1, 99992, 0, "turned"), (1, 0, 194, "as"), (1, 0, -194, "mirrored")):
            self.assert_refused(OutOfRange, woven, THEME, 3, clash + [wrong])


class EntriesTest(Case):
    """Point [19]."""

    def test_an_entry_in_each_way(self):
        for way in WAYS:
            for place in range(3):
                piece = woven(THEME, 3, [(place, 7, -30, way)])
                self.assert_told([(place, 7, -30, way)], entries_of, THEME, piece)

    def test_all_that_was_woven(self):
        entries = [(0, 0, 0, "as"), (0, 9, 3, "mirrored"), (0, 30, 0, "both"), (2, 4, -9, "turned"), (2, 100, 1, "as"),
                   (5, 0, 0, "as"), (5, 9, 0, "both")]
        self.assert_told(entries, entries_of, THEME, woven(THEME, 6, entries))
        self.assert_told(entries, entries_of, THEME, woven(THEME, 6, entries[::-1]))

    def test_each_entry_of_what_was_woven_is_found(self):
        shapes = [
            [(0, 1, 0)], [(4, 2, 7)], [(0, 1, 0), (1, 1, 0)], [(2, 1, 0), (3, 1, 2), (5, 1, 4)],
            [(0, 1, 3), (2, 2, 3), (6, 1, 3)], THEME, [(1, 1, 0), (2, 1, 1), (3, 1, 0)],
        ]
        for theme in shapes:
            for ways in itertools.product(WAYS, repeat=3):
                entries = [(place, 10 * count, place - count, way)
                           for count, way in enumerate(ways) for place in (0, 1)]
                with self.subTest(theme=theme, ways=ways):
                    told = entries_of(theme, woven(theme, 3, entries))
                    self.assertEqual([entry for entry in entries if entry not in told], [])

    def test_entries_that_interlock(self):
        theme = [(0, 1, 0), (3, 1, 2), (5, 1, 7)]
        entries = [(0, 0, 0, "as"), (0, 1, 1, "as"), (0, 7, 0, "both")]
        told = entries_of(theme, woven(theme, 1, entries))
        self.assertEqual([entry for entry in entries if entry not in told], [])
        self.assertEqual(told, entries_by_words(theme, woven(theme, 1, entries)))

    def test_all_entries_of_small_pieces(self):
        shapes = [[(1, 1, 2)], [(0, 2, 0)], [(0, 1, 0), (1, 1, 1)], [(3, 1, 5), (5, 1, 4)], [(0, 1, 0), (1, 2, -2)],
                  [(0, 1, 0), (1, 1, 2), (2, 1, 3)]]
        found = 0
        for piece in made_pieces(24) + [[[(time, 1, time // 2) for time in range(8)], [(0, 2, 1), (2, 2, 1)]]]:
            for theme in shapes:
                told = entries_by_words(theme, piece)
                found += len(told)
                self.assert_told(told, entries_of, theme, piece)
        self.assertGreater(found, 500)

    def test_a_theme_that_is_its_own_turned_one(self):
        theme = [(0, 1, 3), (2, 2, 5), (5, 1, 3)]
        told = [(0, 4, 1, "as"), (0, 4, 1, "turned")]
        self.assert_told(told, entries_of, theme, [[(4, 1, 4), (6, 2, 6), (9, 1, 4)]])

    def test_a_theme_that_is_its_own_mirror(self):
        theme = [(0, 1, 3), (1, 2, 3), (7, 1, 3)]
        told = [(1, 0, 0, "as"), (1, 0, 6, "mirrored")]
        self.assert_told(told, entries_of, theme, [[], theme])
        theme = [(0, 1, 3), (1, 2, 3)]
        told = [(1, 0, 0, "as"), (1, 0, 6, "mirrored")]
        self.assert_told(told, entries_of, theme, [[], theme])

    def test_a_theme_that_is_its_own_turned_mirror(self):
        theme = [(0, 1, 0), (1, 1, 2)]
        told = [(0, 3, 5, "as"), (0, 3, 7, "both")]
        self.assert_told(told, entries_of, theme, [[(3, 1, 5), (4, 1, 7)]])

    def test_a_theme_that_is_its_own_in_each_way(self):
        theme = [(0, 1, 0), (1, 1, 0)]
        told = [(0, 3, 5, "as"), (0, 3, 5, "both"), (0, 3, 5, "mirrored"), (0, 3, 5, "turned")]
        self.assert_told(told, entries_of, theme, [[(3, 1, 5), (4, 1, 5)]])

    def test_a_theme_of_one_note(self):
        told = [(0, 5, 2, "as"), (0, 5, 2, "turned"), (0, 5, 4, "both"), (0, 5, 4, "mirrored")]
        self.assert_told(told, entries_of, [(1, 3, 1)], [[(6, 3, 3)]])
        self.assert_told([], entries_of, [(1, 3, 1)], [[(6, 2, 3), (8, 4, 3)]])

    def test_one_note_again_and_again_in_one_voice(self):
        theme = [(0, 1, 7), (1, 1, 7)]
        piece = [[(time, 1, 7) for time in range(4)]]
        told = [(0, later, higher, way) for later in range(3)
                for higher, way in [(0, "as"), (0, "turned"), (14, "both"), (14, "mirrored")]]
        self.assert_told(told, entries_of, theme, piece)

    def test_entries_ahead_of_the_theme_and_below_it(self):
        theme = [(50, 1, 60), (51, 2, 62)]
        told = [(0, -50, -70, "as"), (0, -40, 110, "mirrored")]
        self.assert_told(told, entries_of, theme, [[(0, 1, -10), (1, 2, -8), (10, 1, 50), (11, 2, 48)]])

    def test_nothing_found(self):
        for many in range(1, 7):
            self.assert_told([], entries_of, THEME, [[] for _ in range(many)])
            self.assert_told([], entries_of, [(0, 1, 0)], [[] for _ in range(many)])
        for piece in (
            [THEME[:2]], [THEME[1:]], [[THEME[0], THEME[2]]], [THEME[:2], THEME[2:]], [THEME[:1], THEME[1:]],
            [[(0, 2, 5), (2, 1, 7), (5, 3, 4)]], [[(0, 2, 5), (2, 1, 7), (6, 4, 4)]],
            [[(0, 2, 5), (2, 1, 7), (5, 4, 5)]], [[(0, 1, 5), (2, 1, 7), (5, 4, 4)]],
            [[(0, 4, 10), (4, 2, 14), (10, 8, 8)]],
        ):
            self.assert_told([], entries_of, THEME, piece)

    def test_other_notes_may_stand_between_and_around(self):
        piece = [[(0, 1, 9), (1, 2, 5), (3, 1, 7), (4, 2, 0), (6, 4, 4), (10, 1, 1)]]
        self.assert_told([(0, 1, 0, "as")], entries_of, THEME, piece)

    def test_the_order(self):
        entries = [
            (0, -2, 9, "as"), (0, 20, -9, "mirrored"), (0, 100, 0, "as"), (1, -2, -1, "turned"), (1, 9, -1, "as"),
            (2, -2, 0, "both"), (3, -1, 0, "as"), (3, 10, 0, "both"),
        ]
        theme = [(start + 2, long, pitch) for start, long, pitch in THEME]
        self.assert_told(entries, entries_of, theme, woven(theme, 4, entries[::-1]))
        # At one place and time it goes by higher, as numbers, and only then by the way, as words.
        told = [(0, 0, 0, "as"), (0, 0, 0, "turned"), (0, 0, 10, "both"), (0, 0, 10, "mirrored"),
                (0, 2, -7, "as"), (0, 2, -7, "turned"), (0, 2, 3, "both"), (0, 2, 3, "mirrored")]
        self.assert_told(told, entries_of, [(0, 2, 5)], [[(0, 2, 5), (2, 2, -2)]])
        told = [(0, 0, -10, "both"), (0, 0, -10, "mirrored"), (0, 0, 0, "as"), (0, 0, 0, "turned")]
        self.assert_told(told, entries_of, [(0, 2, -5)], [[(0, 2, -5)]])

    def test_entries_out_of_reach_of_one_another(self):
        theme = [(0, 100000, 200)]
        told = [(0, 0, 0, "as"), (0, 0, 0, "turned"), (0, 0, 400, "both"), (0, 0, 400, "mirrored")]
        self.assert_told(told, entries_of, theme, [[(0, 100000, 200)]])

    def test_refuses_what_is_no_piece_ahead_of_what_is_no_theme(self):
        for piece in NO_PIECES:
            self.assert_refused(BadPiece, entries_of, THEME, piece)
            self.assert_refused(BadPiece, entries_of, None, piece)
            self.assert_refused(BadPiece, entries_of, [], piece)
            self.assert_refused(BadPiece, entries_of, piece, piece)

    def test_refuses_what_is_no_theme(self):
        for theme in NO_THEMES:
            for piece in ([[]], [[], THEME]):
                self.assert_refused(BadTheme, entries_of, theme, piece)

    def test_tells_new_lists_and_changes_nothing(self):
        for piece in PIECES + [[THEME, FORMS["both"]]]:
            for theme in (THEME, [(1, 1, 0)]):
                self.assert_new(entries_of, theme, piece)
        told = entries_of(THEME, [THEME])
        told.append(None)
        self.assertEqual(entries_of(THEME, [THEME]), [(0, 0, 0, "as")])

    def test_a_theme_that_is_a_voice_of_the_piece(self):
        piece = [[(0, 1, 0), (1, 1, 5)]]
        self.assert_new(entries_of, piece[0], piece)
        self.assert_told([(0, 0, 0, "as"), (0, 0, 5, "both")], entries_of, piece[0], piece)


if __name__ == "__main__":
    unittest.main()
