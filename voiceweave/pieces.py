"""What a note, a voice and a piece are, and what sounds in a piece."""

from voiceweave.errors import BadNumber, BadPiece

GREATEST_END = 100000
PITCH_REACH = 200
MOST_VOICES = 6


def is_whole(number):
    """Tell whether this is a whole number."""
    # To Python True and False are integers, too; here they are not.
    return isinstance(number, int) and not isinstance(number, bool)


def require_whole(number):
    """Refuse with BadNumber what is no whole number."""
    if not is_whole(number):
        raise BadNumber("no whole number")


def end_of(note):
    """Tell the time at which a note sounds no more."""
    start, long, _ = note
    return start + long


def is_note(note):
    """Tell whether this is a note."""
    if not isinstance(note, tuple) or len(note) != 3:
        return False
    if not all(is_whole(part) for part in note):
        return False
    start, long, pitch = note
    in_time = start >= 0 and long >= 1 and start + long <= GREATEST_END
    return in_time and -PITCH_REACH <= pitch <= PITCH_REACH


def is_voice(voice):
    """Tell whether this is a voice: notes, none of which starts before the one ahead of it ends."""
    if not isinstance(voice, list):
        return False
    last_end = 0
    for note in voice:
        if not is_note(note) or note[0] < last_end:
            return False
        last_end = end_of(note)
    return True


def is_piece(piece):
    """Tell whether this is a piece."""
    if not isinstance(piece, list) or not 1 <= len(piece) <= MOST_VOICES:
        return False
    return all(is_voice(voice) for voice in piece)


def good(piece):
    """Tell the same piece in new lists, or refuse with BadPiece what is no piece."""
    if not is_piece(piece):
        raise BadPiece("no piece")
    return [list(voice) for voice in piece]


def length(piece):
    """Tell the greatest end of all notes, 0 without notes."""
    return max([end_of(note) for voice in good(piece) for note in voice], default=0)


def sounding(piece, time):
    """Tell for each voice the pitch that sounds at a time, or None."""
    voices = good(piece)
    require_whole(time)
    return [_pitch_at(voice, time) for voice in voices]


def _pitch_at(voice, time):
    for note in voice:
        if note[0] <= time < end_of(note):
            return note[2]
    return None
