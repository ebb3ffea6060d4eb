"""All faults of a piece: leaps, meetings that cross or are harsh, and voices that go along."""

from voiceweave.pieces import end_of, good

OCTAVE = 12
WIDEST_STEP = 12
HARSH = (1, 2, 6, 10, 11)
HOLLOW = (0, 7)


def faults(piece):
    """Tell all faults of a piece, rising."""
    voices = good(piece)
    touches = [_touches(voice) for voice in voices]
    found = []
    for place in range(len(voices)):
        found.extend(_leaps(touches[place], place))
        for other in range(place + 1, len(voices)):
            found.extend(_faults_met(voices, touches, place, other))
            found.extend(_alongs(touches, place, other))
    return sorted(found)


def _touches(voice):
    """Tell for each time at which two notes of a voice touch the pitch ahead and the pitch behind."""
    return {
        later[0]: (earlier[2], later[2])
        for earlier, later in zip(voice, voice[1:])
        if end_of(earlier) == later[0]
    }


def _leaps(touches, place):
    return [
        (time, time, "leap", place, place)
        for time, (ahead, behind) in touches.items()
        if abs(behind - ahead) > WIDEST_STEP
    ]


def _faults_met(voices, touches, place, other):
    """Tell the faults of all meetings of two voices, the upper one first."""
    found = []
    for high, low in _meetings(voices[place], voices[other]):
        begin, end = max(high[0], low[0]), min(end_of(high), end_of(low))
        if high[2] < low[2]:
            found.append((begin, end, "cross", place, other))
        passing = _passes(high, touches[place]) or _passes(low, touches[other])
        if _parted(high[2], low[2]) in HARSH and not passing:
            found.append((begin, end, "harsh", place, other))
    return found


def _meetings(upper, lower):
    """Tell each two notes of two voices that meet."""
    met = []
    high = low = 0
    while high < len(upper) and low < len(lower):
        if max(upper[high][0], lower[low][0]) < min(end_of(upper[high]), end_of(lower[low])):
            met.append((upper[high], lower[low]))
        # The note that ends first meets no later one of the other voice.
        if end_of(upper[high]) < end_of(lower[low]):
            high += 1
        else:
            low += 1
    return met


def _parted(high, low):
    """Tell what the interval of two pitches leaves, parted by 12."""
    return (high - low) % OCTAVE


def _passes(note, touches):
    """Tell whether a note passes, by the touches of its voice."""
    start, end = note[0], end_of(note)
    if start not in touches or end not in touches:
        return False
    ahead, pitch = touches[start]
    behind = touches[end][1]
    steps = (pitch - ahead, behind - pitch)
    return all(1 <= step <= 2 for step in steps) or all(-2 <= step <= -1 for step in steps)


def _alongs(touches, place, other):
    high, low = touches[place], touches[other]
    return [
        (time, time, "along", place, other)
        for time in high
        if time in low and _go_along(high[time], low[time])
    ]


def _go_along(high, low):
    """Tell whether two voices go along, by the pitches ahead and behind in each of them."""
    both_up = high[0] < high[1] and low[0] < low[1]
    both_down = high[0] > high[1] and low[0] > low[1]
    ahead, behind = _parted(high[0], low[0]), _parted(high[1], low[1])
    return (both_up or both_down) and ahead == behind and ahead in HOLLOW
