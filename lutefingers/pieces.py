"""From a piece's text to the piece's lines.

A stop is a tuple (course, fret). A line is a moment, a tuple (length, stops), or a bar, None.
"""

from lutefingers.texts import as_text

MOST_LINES = 512
FIRST_BASS = 7
CROSSED_COURSES = 5
FRETS_A_ROUND = 5
MOST_ROUNDS = 3

KINDS = ("french", "italian", "german")

SIGNS = "\n &+-./0123456789ABCDEFGHIJKLMNOPQRSTUVWXYZabcdefghijklmnopqrstuvwxyz|"

LENGTHS = {
    "x": 1, "t": 2, "s": 4, "e": 8, "q": 16, "h": 32, "w": 64,
    "t.": 3, "s.": 6, "e.": 12, "q.": 24, "h.": 48, "w.": 96,
}

# In each of these a sign's place tells its fret, or how far its course lies behind the first one.
FRENCH_FRETS = "abcdefghiklmnopq"
FRENCH_BASSES = ("a", "/a", "//a", "///a", "4", "5", "6", "7")
ITALIAN_FRETS = "0123456789xyzvuw"
ITALIAN_BASSES = ("7", "8", "9", "10", "11", "12", "13", "14")
GERMAN_NUT = ("5", "4", "3", "2", "1")
GERMAN_CROSSINGS = "abcdefghiklmnopqrstvxyz&9"
GERMAN_SIXTH = ("+", "A", "B", "C", "D", "E", "F", "G", "H", "I", "K", "L", "M", "N", "O", "P")
GERMAN_BASSES = ("-7", "-8", "-9", "-10", "-11", "-12", "-13", "-14")


# Raised wherever a text turns out to be no piece's text.
class NoPiece(Exception):
    pass


def read_grid(signs, frets):
    """The stops of courses 1 to 6, from their six signs, the highest course first."""
    if len(signs) != 6:
        raise NoPiece("six signs are wanted")
    stops = []
    for course, sign in enumerate(signs, start=1):
        if sign == ".":
            continue
        if sign not in frets:
            raise NoPiece("no fret has this sign")
        stops.append((course, frets.index(sign)))
    return stops


def read_basses(text, basses):
    """The stops of the courses from 7 on, from what stands behind the six signs."""
    # A blank stands ahead of each sign, so the first part is what is ahead of the first blank: nothing.
    parts = text.split(" ")
    if parts[0] != "":
        raise NoPiece("a blank is wanted ahead of a bass")
    stops = []
    for sign in parts[1:]:
        if sign not in basses:
            raise NoPiece("no bass has this sign")
        stops.append((FIRST_BASS + basses.index(sign), 0))
    return stops


def read_french_stops(text):
    return read_grid(text[:6], FRENCH_FRETS) + read_basses(text[6:], FRENCH_BASSES)


def read_italian_stops(text):
    # The lowest course's sign is written first there.
    signs = "".join([sign for sign in reversed(text[:6])])
    return read_grid(signs, ITALIAN_FRETS) + read_basses(text[6:], ITALIAN_BASSES)


def read_crossing(sign):
    """The stop of courses 1 to 5 and a fret from 1 on that has this German sign."""
    rounds = len(sign)
    if rounds < 1 or rounds > MOST_ROUNDS or sign != sign[0] * rounds:
        raise NoPiece("no German sign")
    if sign[0] not in GERMAN_CROSSINGS:
        raise NoPiece("no German sign")
    number = GERMAN_CROSSINGS.index(sign[0])
    # The signs go up fret by fret, within a fret from course 5 to course 1, then begin anew, doubled.
    course = CROSSED_COURSES - number % CROSSED_COURSES
    fret = FRETS_A_ROUND * (rounds - 1) + number // CROSSED_COURSES + 1
    return (course, fret)


def read_german_stop(sign):
    if sign in GERMAN_NUT:
        return (1 + GERMAN_NUT.index(sign), 0)
    if sign in GERMAN_SIXTH:
        return (6, GERMAN_SIXTH.index(sign))
    if sign in GERMAN_BASSES:
        return (FIRST_BASS + GERMAN_BASSES.index(sign), 0)
    return read_crossing(sign)


def read_german_stops(text):
    if text == ".":
        return []
    return [read_german_stop(sign) for sign in text.split(" ")]


def read_stops(kind, text):
    if kind == "french":
        stops = read_french_stops(text)
    elif kind == "italian":
        stops = read_italian_stops(text)
    else:
        stops = read_german_stops(text)
    for higher, lower in zip(stops, stops[1:]):
        if higher[0] >= lower[0]:
            raise NoPiece("courses are told in order, each once")
    return stops


def read_length(sign, length_before):
    """The length that a moment's sign tells; length_before is 0 if no moment stands ahead."""
    if sign == "":
        if length_before == 0:
            raise NoPiece("the first moment needs a length's sign")
        return length_before
    if sign not in LENGTHS:
        raise NoPiece("no length has this sign")
    if LENGTHS[sign] == length_before:
        raise NoPiece("a length that stays has no sign")
    return LENGTHS[sign]


def read_moment(kind, row, length_before):
    blank = row.find(" ")
    if blank < 0:
        raise NoPiece("a moment has a blank ahead of its stops")
    length = read_length(row[:blank], length_before)
    return (length, read_stops(kind, row[blank + 1:]))


def read_lines(kind, rows):
    lines = []
    length = 0
    for row in rows:
        if row == "|":
            lines.append(None)
        else:
            moment = read_moment(kind, row, length)
            length = moment[0]
            lines.append(moment)
    if length == 0:
        raise NoPiece("a piece has a moment")
    return lines


def read_piece(codes):
    """The lines of the piece whose text these bytes are; NoPiece is raised if they are none's."""
    rows = as_text(codes, SIGNS).split("\n")
    # A line's end stands behind each line, so what is behind the last one must be nothing.
    if rows[-1] != "":
        raise NoPiece("the last line has no end")
    if rows[0] not in KINDS:
        raise NoPiece("the first line tells no kind")
    lines = rows[1:-1]
    if len(lines) > MOST_LINES:
        raise NoPiece("too many lines")
    return read_lines(rows[0], lines)
