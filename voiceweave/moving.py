"""A piece moved, mirrored, turned, stretched or shrunk."""

from voiceweave.errors import BadNumber, OutOfRange, Uneven
from voiceweave.pieces import good, is_note, is_whole, require_whole

MOST_TIMES = 1000


def moved(piece, later, higher):
    """Tell the piece with each note so much later and so much higher."""
    voices = good(piece)
    require_whole(later)
    require_whole(higher)
    return [[_note(start + later, long, pitch + higher) for start, long, pitch in voice] for voice in voices]


def mirrored(piece, axis):
    """Tell the piece with each pitch p as axis - p, its last voice first."""
    voices = good(piece)
    require_whole(axis)
    return [[_note(start, long, axis - pitch) for start, long, pitch in voice] for voice in voices[::-1]]


def turned(piece, end):
    """Tell the piece with each note starting at end less its own end."""
    voices = good(piece)
    require_whole(end)
    return [[_note(end - (start + long), long, pitch) for start, long, pitch in voice[::-1]] for voice in voices]


def stretched(piece, times):
    """Tell the piece with each start and each long times so many."""
    voices = good(piece)
    _require_times(times)
    return [[_note(start * times, long * times, pitch) for start, long, pitch in voice] for voice in voices]


def shrunk(piece, times):
    """Tell the piece with each start and each long parted by so many."""
    voices = good(piece)
    _require_times(times)
    return [
        [_note(_parted(start, times), _parted(long, times), pitch) for start, long, pitch in voice]
        for voice in voices
    ]


def _note(start, long, pitch):
    note = (start, long, pitch)
    if not is_note(note):
        raise OutOfRange("a note would be no note")
    return note


def _parted(number, times):
    if number % times != 0:
        raise Uneven("a start or a long cannot be parted")
    return number // times


def _require_times(times):
    if not is_whole(times) or not 1 <= times <= MOST_TIMES:
        raise BadNumber("no whole number from 1 to 1000")
