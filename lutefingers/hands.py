"""The calls: what a hand has to hold in a lute piece, and how it can.

A refusal is a list of its number alone: -2 too many bytes, -6 no piece's text, -1 no such way of ringing,
-4 no such moment. They are looked at in this order.
"""

from lutefingers.fingers import find_grips
from lutefingers.moments import held_moments
from lutefingers.pieces import NoPiece, read_piece

MOST_BYTES = 65536
LAST_RINGING = 2


# refusal: the number of what is refused, or 0; then moments are those of the piece.
class Reading:
    def __init__(self, refusal, moments):
        self.refusal = refusal
        self.moments = moments


def read_moments(ring, t):
    if len(t) > MOST_BYTES:
        return Reading(-2, [])
    try:
        lines = read_piece(t)
    except NoPiece:
        return Reading(-6, [])
    if ring > LAST_RINGING:
        return Reading(-1, [])
    return Reading(0, held_moments(lines, ring))


def held(ring, i, t):
    """How many stops are held at moment i, then the course and the fret of each; or a refusal."""
    reading = read_moments(ring, t)
    if reading.refusal < 0:
        return [reading.refusal]
    if i >= len(reading.moments):
        return [-4]
    stops = reading.moments[i].stops
    answer = [len(stops)]
    for course, fret in stops:
        answer.append(course)
        answer.append(fret)
    return answer


def grips(ring, i, t):
    """How many grips moment i has; or a refusal."""
    reading = read_moments(ring, t)
    if reading.refusal < 0:
        return [reading.refusal]
    if i >= len(reading.moments):
        return [-4]
    return [len(find_grips(reading.moments[i].stops))]
