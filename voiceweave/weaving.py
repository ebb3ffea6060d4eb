"""A theme woven into a piece, and the entries of a theme in a piece."""

from voiceweave.errors import BadEntry, BadPiece, BadTheme, Clash
from voiceweave.moving import mirrored, moved, turned
from voiceweave.pieces import MOST_VOICES, end_of, good, is_piece, is_voice, is_whole

WAYS = ("as", "both", "mirrored", "turned")


def woven(theme, many, entries):
    """Tell the piece of so many voices that the entries of the theme make."""
    forms = _forms(theme)
    if not is_whole(many) or not 1 <= many <= MOST_VOICES:
        raise BadPiece("no whole number of voices from 1 to 6")
    voices = [[] for _ in range(many)]
    for entry in entries:
        if not _is_entry(entry, many):
            raise BadEntry("no entry of the piece")
        place, later, higher, way = entry
        voices[place].extend(moved([forms[way]], later, higher)[0])
    piece = [sorted(voice) for voice in voices]
    # Each note is one by itself, so what is no piece here has notes that sound at one time.
    if not is_piece(piece):
        raise Clash("two notes of one voice sound at one time")
    return piece


def entries_of(theme, piece):
    """Tell all entries of a theme in a piece, rising."""
    voices = good(piece)
    forms = _forms(theme)
    found = []
    for place, voice in enumerate(voices):
        there = {note: True for note in voice}
        for way in WAYS:
            found.extend([(place, later, higher, way) for later, higher in _fits(forms[way], there)])
    return sorted(found)


def _forms(theme):
    """Tell the notes of a theme put in each way."""
    if not is_voice(theme) or theme == []:
        raise BadTheme("no theme")
    # With this end each note starts at the theme's first start and last end less its own end.
    end = theme[0][0] + end_of(theme[-1])
    overturned = mirrored([theme], 0)
    return {
        "as": theme,
        "mirrored": overturned[0],
        "turned": turned([theme], end)[0],
        "both": turned(overturned, end)[0],
    }


def _is_entry(entry, many):
    """Tell whether this is an entry of a piece of so many voices."""
    if not isinstance(entry, tuple) or len(entry) != 4:
        return False
    place, later, higher, way = entry
    if not is_whole(place) or not is_whole(later) or not is_whole(higher):
        return False
    return 0 <= place < many and isinstance(way, str) and way in WAYS


def _fits(form, there):
    """Tell how much later and higher all notes of a form are notes that are there."""
    start, long, pitch = form[0]
    shifts = [(note[0] - start, note[2] - pitch) for note in there if note[1] == long]
    return [(later, higher) for later, higher in shifts if _all_there(form, later, higher, there)]


def _all_there(form, later, higher, there):
    return all((start + later, long, pitch + higher) in there for start, long, pitch in form)
