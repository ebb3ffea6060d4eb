"""Point [20]: a piece written as a text, and read from one."""

import inspect
import re
import unittest

from helper import HUGE, NO_PIECES, PIECES, Case, made_pieces
from voiceweave import texts
from voiceweave.errors import BadPiece, NoText, WeaveError
from voiceweave.pieces import good
from voiceweave.texts import read, written

# Texts and the pieces that they are the texts of.
WRITTEN = [
    ("0 4 60", [[(0, 4, 60)]]),
    ("0 4 67; 4 4 65\n2 2 48; 6 6 50", [[(0, 4, 67), (4, 4, 65)], [(2, 2, 48), (6, 6, 50)]]),
    ("", [[]]),
    ("\n", [[], []]),
    ("\n\n\n\n\n", [[], [], [], [], [], []]),
    ("\n0 1 0", [[], [(0, 1, 0)]]),
    ("0 1 0\n", [[(0, 1, 0)], []]),
    ("\n0 1 0\n", [[], [(0, 1, 0)], []]),
    ("0 1 0\n\n5 5 12; 20 10 -14", [[(0, 1, 0)], [], [(5, 5, 12), (20, 10, -14)]]),
    ("0 1 -1; 1 1 -10; 2 1 -200; 3 1 200", [[(0, 1, -1), (1, 1, -10), (2, 1, -200), (3, 1, 200)]]),
    ("0 100000 7", [[(0, 100000, 7)]]),
    ("99999 1 7", [[(99999, 1, 7)]]),
    ("10 20 30; 100 200 100; 1000 2000 0; 10000 20000 -100",
     [[(10, 20, 30), (100, 200, 100), (1000, 2000, 0), (10000, 20000, -100)]]),
]

NO_TEXTS = [
    # A blank or a semicolon too many or too few.
    " ", "  ", " 0 4 60", "0 4 60 ", "0  4 60", "0 4  60", "04 60", "0 460", "0460", "0 4", "0", "0 4 60 1",
    "0 4 60;4 2 62", "0 4 60 4 2 62", "0 4 60;  4 2 62", "0 4 60 ; 4 2 62", "0 4 60;; 4 2 62", "0 4 60; ; 4 2 62",
    "0 4 60;", "0 4 60; ", ";0 4 60", "; 0 4 60", ";", "; ", "; ; ", "0; 4; 60", "0;4;60", "0 4 60, 4 2 62",
    "0 4 60; 4 2 62;", "0 4 60; 4 2 62; ", "0 4 60; 4 2", "0 4; 4 2 62", "0,4,60", "(0, 4, 60)",
    # Line feeds and other white space.
    "0 4\n60", "0\n4\n60", "0 4 60;\n4 2 62", "0 4 60; \n4 2 62", "0 4 60 \n", "\n 0 4 60", "0 4 60\n ", " \n", "\n ",
    "0\t4\t60", "0 4\t60", "0 4 60\t", "\t0 4 60", "0 4 60;\t4 2 62", "\t", "0 4 60\r", "\r0 4 60", "0 4 60\r\n4 2 62",
    "\r\n", "\r", "0 4 60\v", "0 4 60\f", "\f", "0\u00a04\u00a060", "0 4\u200360", "0 4 60\u2028", "0 4 60\x85",
    "0 4 60\x1c4 2 62", "0 4 60\x00", "\x00", "\ufeff0 4 60", "0 4 60\u200b", "0 4 60\ud800",
    # Six line feeds are seven rows.
    "\n" * 6, "\n" * 7, "\n" * 1000, "\n".join(["0 1 0"] * 7), "0 1 0" + "\n" * 6, "\n" * 6 + "0 1 0",
    # Numbers that are not written so.
    "+0 4 60", "0 +4 60", "0 4 +60", "+", "-", "0 4 -", "0 4 --60", "0 4 +-60", "0 4 -+60", "0 4 - 60", "0 4 60-",
    "00 4 60", "0 04 60", "0 4 060", "0 4 -060", "0 4 00", "0 4 -00", "000000 4 60", "0 4 -0", "-0 4 60", "-0 4 -0",
    "0 4 6_0", "1_0 4 60", "0 4 _60", "0 4 60_", "0 4 6.0", "0 4 60.", "0 4 .6", "0.0 4 60", "0 4 6e1", "1e3 4 60",
    "0 4 0x3c", "0x0 4 60", "0 0b1 60", "0 4 3c", "0 4 C", "0 4 None", "True 4 60", "0 4 nan", "a b c", "abc",
    "0 4 60L", "0 4 '60'", "0 4 60#", "# 0 4 60",
    # Figures beyond ASCII.
    "0 4 \u0666\u0660", "\u0660 4 60", "0 \u0664 60", "0 4 \uff16\uff10", "0 4 6\uff10", "0 4 \u00b2", "0 \u2463 60",
    "0 \u00bd 60", "0 4 \u2212 60", "0 4 \u221260", "0 4 \u201360", "0 4 -\u0666", "0 4 \U0001d7d8", "\u4e94 4 60",
    # Numbers that make no note.
    "-1 4 60", "0 0 60", "5 0 60", "0 -4 60", "5 -4 60", "0 4 201", "0 4 -201", "0 100001 60", "1 100000 60",
    "99999 2 60", "100000 1 60", "100001 1 60", "0 4 1000", "0 4 100000", "0 4 -100000", "0 1000000 60", "1000000 1 60",
    f"{HUGE} 1 60", f"0 {HUGE} 60", f"0 4 {HUGE}", f"0 4 -{HUGE}", f"-{HUGE} {HUGE} 60", "0 4 " + "9" * 5000,
    "9" * 10000, "0 4 -" + "9" * 5000, "0 4 " + "0" * 5000, "0" * 5000 + " 4 60", "9" * 100000 + " 4 60",
    # Notes that make no voice.
    "0 4 60; 3 2 62", "0 4 60; 0 4 60", "0 4 60; 0 1 62", "4 2 62; 0 4 60", "0 4 60; 4 2 62; 5 1 64",
    "0 1 0\n0 4 60; 3 2 62", "0 100000 0; 99999 1 0",
    # Other words.
    "[[]]", "[]", "[[(0, 4, 60)]]", "no text", "0 4 60; x", "x; 0 4 60", "0 4 60\nx",
]

NOT_TEXTS = [
    True, False, None, 0, 1, -1, 7, 1.0, [], [[]], [[(0, 4, 60)]], ["0 4 60"], [""], {}, {"": ""}, {"0 4 60": "0 4 60"},
    (), ("0 4 60",), (0, 4, 60), b"", b"0 4 60", bytearray(b"0 4 60"), set(), {"0 4 60"}, str, object(),
]

NUMBER = "(0|-?[1-9][0-9]*)"
NOTE = f"{NUMBER} {NUMBER} {NUMBER}"
ROW = f"({NOTE}(; {NOTE})*)?"
TEXT = re.compile(f"{ROW}(\n{ROW})*")


def read_by_words(text):
    """The piece of a text, or None, by the form of its whole text and what a piece is."""
    if not TEXT.fullmatch(text):
        return None
    rows = [re.findall(NOTE, row) for row in text.split("\n")]
    piece = [[tuple(int(number) for number in note) for note in row] for row in rows]
    try:
        return good(piece)
    except BadPiece:
        return None


def nearly(text):
    """All texts that are one sign away from a text: one taken out, put in, or put in the place of another."""
    signs = "0179- ;\n\t+_.a\u0664"
    texts_near = []
    for place in range(len(text) + 1):
        texts_near += [text[:place] + sign + text[place:] for sign in signs]
        if place < len(text):
            texts_near.append(text[:place] + text[place + 1:])
            texts_near += [text[:place] + sign + text[place + 1:] for sign in signs]
            texts_near.append(text[:place] + text[place:place + 2][::-1] + text[place + 2:])
    return texts_near


class InterfaceTest(Case):
    def test_each_function_is_defined_here_with_its_arguments(self):
        for name, arguments in {"written": ["piece"], "read": ["text"]}.items():
            with self.subTest(name=name):
                function = getattr(texts, name)
                self.assertEqual(function.__module__, "voiceweave.texts")
                self.assertEqual(list(inspect.signature(function).parameters), arguments)

    def test_arguments_may_be_given_by_name(self):
        self.assertEqual(written(piece=[[(0, 4, 60)]]), "0 4 60")
        self.assertEqual(read(text="0 4 60"), [[(0, 4, 60)]])


class WrittenTest(Case):
    def test_the_text_of_a_piece(self):
        for text, piece in WRITTEN:
            self.assert_told(text, written, piece)

    def test_empty_voices_of_one_to_six(self):
        for many in range(1, 7):
            self.assert_told("\n" * (many - 1), written, [[] for _ in range(many)])

    def test_is_of_the_form(self):
        for piece in PIECES + made_pieces(60):
            with self.subTest(piece=piece):
                self.assertIsNotNone(TEXT.fullmatch(written(piece)))

    def test_unlike_pieces_have_unlike_texts(self):
        pieces = PIECES + [[[], []], [[], [], []], [[(0, 1, 0)], []], [[], [(0, 1, 0)]], [[(0, 1, 0), (1, 1, 0)]],
                           [[(0, 1, 0)], [(1, 1, 0)]]]
        self.assertEqual(len({written(piece) for piece in pieces}), len(pieces))

    def test_refuses_what_is_no_piece(self):
        for piece in NO_PIECES:
            self.assert_refused(BadPiece, written, piece)

    def test_changes_nothing(self):
        for piece in PIECES:
            self.assert_new(written, piece)


class ReadTest(Case):
    def test_the_piece_of_a_text(self):
        for text, piece in WRITTEN:
            self.assert_told(piece, read, text)

    def test_what_is_written_is_read_to_the_same_piece(self):
        for piece in PIECES + made_pieces(60):
            self.assert_told(piece, read, written(piece))

    def test_empty_voices_of_one_to_six(self):
        for many in range(1, 7):
            self.assert_told([[] for _ in range(many)], read, "\n" * (many - 1))
        self.assert_refused(NoText, read, "\n" * 6)

    def test_each_number_that_a_note_may_have(self):
        for pitch in range(-200, 201):
            self.assert_told([[(0, 1, pitch)]], read, f"0 1 {pitch}")
        for number in (1, 9, 10, 99, 100, 999, 1000, 9999, 10000, 99999):
            self.assert_told([[(number, 1, 0)]], read, f"{number} 1 0")
            self.assert_told([[(0, number, 0)]], read, f"0 {number} 0")

    def test_a_great_text(self):
        piece = [[(time, 1, time % 401 - 200) for time in range(3000)] for _ in range(6)]
        self.assertEqual(read(written(piece)), piece)

    def test_refuses_every_other_text(self):
        for text in NO_TEXTS:
            self.assert_refused(NoText, read, text)

    def test_refuses_each_of_them_in_any_row(self):
        for text in NO_TEXTS:
            if len(text) < 100:
                self.assert_refused(NoText, read, "0 1 0\n" + text)
                self.assert_refused(NoText, read, text + "\n")

    def test_refuses_what_is_no_text(self):
        for wrong in NOT_TEXTS:
            with self.subTest(wrong=wrong):
                with self.assertRaises(NoText) as caught:
                    read(wrong)
                self.assertIs(type(caught.exception), NoText)

    def test_each_text_that_is_one_sign_away(self):
        refused = 0
        for text in ("", "\n", "0 4 60", "10 4 -60; 14 2 0", "0 1 0\n\n5 5 12; 20 10 -14", "0 1 0; 1 1 100\n2 2 5"):
            for near in nearly(text):
                piece = read_by_words(near)
                if piece is None:
                    refused += 1
                    self.assert_refused(NoText, read, near)
                else:
                    self.assert_told(piece, read, near)
                    self.assertEqual(written(piece), near)
        self.assertGreater(refused, 1000)

    def test_tells_new_lists(self):
        for text, _ in WRITTEN:
            self.assert_new(read, text)

    def test_no_text_is_a_weave_error(self):
        with self.assertRaises(WeaveError):
            read("x")


if __name__ == "__main__":
    unittest.main()
