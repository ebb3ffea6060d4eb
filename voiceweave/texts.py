"""A piece written as a text, and read from one."""

from voiceweave.errors import NoText
from voiceweave.pieces import good, is_piece

# No number of a note has more figures, and Python does not read a number of very many.
MOST_FIGURES = 6


def written(piece):
    """Tell the text of a piece."""
    return "\n".join([_row(voice) for voice in good(piece)])


def read(text):
    """Tell the piece whose text this is, or refuse with NoText what is no text of a piece."""
    if not isinstance(text, str):
        raise NoText("no text")
    piece = [_voice(row) for row in text.split("\n")]
    if not is_piece(piece):
        raise NoText("no piece is written so")
    return piece


def _row(voice):
    return "; ".join([f"{start} {long} {pitch}" for start, long, pitch in voice])


def _voice(row):
    if row == "":
        return []
    return [_numbers(words) for words in row.split("; ")]


def _numbers(words):
    return tuple([_number(word) for word in words.split(" ")])


def _number(word):
    figures = word.removeprefix("-")
    if len(figures) > MOST_FIGURES or not figures.isascii() or not figures.isdigit():
        raise NoText("no number of a note")
    number = int(word)
    # A number has one text only: no nought ahead of its figures, no minus ahead of 0.
    if str(number) != word:
        raise NoText("a number is not written so")
    return number
