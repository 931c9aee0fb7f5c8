"""The calls: what a hand has to hold in a lute piece.

A refusal is a list of its number alone: -2 too many bytes, -6 no piece's text, -1 no such way of ringing,
-4 no such moment.
"""

from lutefingers.pieces import NoPiece, read_piece

MOST_BYTES = 65536

UNTIL_MOMENT_ENDS = 0
UNTIL_BAR = 2
LAST_RINGING = 2


def held_stops(lines, ring):
    """For each moment of the piece the stops that are held there, by courses."""
    # A course struck anew, at whatever fret, ends what it sounded: one fret a course is enough.
    sounding = {}
    moments = []
    for line in lines:
        if line is None:
            # A bar stands where the next moment begins, so nothing from before it sounds there.
            if ring == UNTIL_BAR:
                sounding = {}
            continue
        if ring == UNTIL_MOMENT_ENDS:
            sounding = {}
        for course, fret in line[1]:
            sounding[course] = fret
        moments.append([(course, sounding[course]) for course in sorted(sounding) if sounding[course] > 0])
    return moments


def held(ring, i, t):
    """How many stops are held at moment i, then the course and the fret of each; or a refusal."""
    if len(t) > MOST_BYTES:
        return [-2]
    try:
        lines = read_piece(t)
    except NoPiece:
        return [-6]
    if ring > LAST_RINGING:
        return [-1]
    moments = held_stops(lines, ring)
    if i >= len(moments):
        return [-4]
    answer = [len(moments[i])]
    for course, fret in moments[i]:
        answer.append(course)
        answer.append(fret)
    return answer
