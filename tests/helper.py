"""What the tests share: texts as bytes, a writer of pieces, and a second reading of the document.

The second reading goes another way than the program: it matches rows with patterns, finds held stops by
the units at which they begin and end, and tries every finger at every position.
"""

import functools
import itertools
import re

SIGN_OF_LENGTH = {
    1: "x", 2: "t", 4: "s", 8: "e", 16: "q", 32: "h", 64: "w",
    3: "t.", 6: "s.", 12: "e.", 24: "q.", 48: "h.", 96: "w.",
}
LENGTH_OF_SIGN = {sign: length for length, sign in SIGN_OF_LENGTH.items()}
FRENCH = "abcdefghiklmnopq"
FRENCH_BASS = {7: "a", 8: "/a", 9: "//a", 10: "///a", 11: "4", 12: "5", 13: "6", 14: "7"}
ITALIAN = "0123456789xyzvuw"
GERMAN = "a b c d e f g h i k l m n o p q r s t v x y z & 9".split()
SIXTH = "+ABCDEFGHIKLMNOP"
KINDS = ("french", "italian", "german")
BAR = "|"


def codes(text):
    return list(text.encode("latin-1"))


def french_stops(stops):
    frets = dict(stops)
    grid = "".join(FRENCH[frets[c]] if c in frets else "." for c in range(1, 7))
    return grid + "".join(" " + FRENCH_BASS[c] for c in sorted(frets) if c > 6)


def italian_stops(stops):
    frets = dict(stops)
    grid = "".join(ITALIAN[frets[c]] if c in frets else "." for c in range(6, 0, -1))
    return grid + "".join(f" {c}" for c in sorted(frets) if c > 6)


def german_sign(course, fret):
    if course > 6:
        return f"-{course}"
    if course == 6:
        return SIXTH[fret]
    if fret == 0:
        return str(6 - course)
    return GERMAN[5 * ((fret - 1) % 5) + 5 - course] * ((fret - 1) // 5 + 1)


def german_stops(stops):
    return " ".join(german_sign(c, f) for c, f in stops) or "."


WRITERS = {"french": french_stops, "italian": italian_stops, "german": german_stops}


def piece_text(kind, lines):
    """The text of a piece; a line is BAR or (length, stops), stops by courses."""
    rows = [kind]
    before = None
    for line in lines:
        if line == BAR:
            rows.append(BAR)
            continue
        length, stops = line
        sign = "" if length == before else SIGN_OF_LENGTH[length]
        before = length
        rows.append(sign + " " + WRITERS[kind](stops))
    return "".join(row + "\n" for row in rows)


GRID_PATTERN = {"french": "([a-ik-q.]{6})", "italian": "([0-9xyzvuw.]{6})"}
BASS_PATTERN = {"french": "(?:/{0,3}a|[4-7])", "italian": "(?:[789]|1[0-4])"}
GERMAN_PATTERN = re.compile(r"[1-5]|([a-ik-tvxyz&9])\1{0,2}|[+A-IK-P]|-(?:[789]|1[0-4])")
BASS_COURSE = {
    "french": {sign: course for course, sign in FRENCH_BASS.items()},
    "italian": {str(course): course for course in range(7, 15)},
}
GERMAN_STOP = {german_sign(c, f): (c, f) for c in range(1, 7) for f in range(16)}
GERMAN_STOP.update({german_sign(c, 0): (c, 0) for c in range(7, 15)})
MOMENT_PATTERN = re.compile(r"(x|[tseqhw]\.?|) ([^\n]*)", re.DOTALL)


def second_stops(kind, text):
    """The stops that a row tells, or None."""
    if kind == "german":
        if text == ".":
            return []
        signs = text.split(" ")
        if not all(GERMAN_PATTERN.fullmatch(sign) for sign in signs):
            return None
        stops = [GERMAN_STOP[sign] for sign in signs]
    else:
        match = re.fullmatch(GRID_PATTERN[kind] + "((?: " + BASS_PATTERN[kind] + ")*)", text)
        if not match:
            return None
        grid = match.group(1) if kind == "french" else match.group(1)[::-1]
        frets = FRENCH if kind == "french" else ITALIAN
        stops = [(c + 1, frets.index(sign)) for c, sign in enumerate(grid) if sign != "."]
        stops += [(BASS_COURSE[kind][sign], 0) for sign in match.group(2).split()]
    courses = [course for course, _ in stops]
    return stops if courses == sorted(set(courses)) else None


def second_lines(text):
    """The lines of a piece's text, or None if the text is no piece's."""
    whole = re.fullmatch("(french|italian|german)\n((?:[^\n]*\n)*)", text)
    if not whole:
        return None
    lines = []
    before = None
    for row in whole.group(2).split("\n")[:-1]:
        if row == BAR:
            lines.append(BAR)
            continue
        match = MOMENT_PATTERN.fullmatch(row)
        if not match or (before is None and match.group(1) == ""):
            return None
        length = LENGTH_OF_SIGN[match.group(1)] if match.group(1) else before
        if match.group(1) and length == before:
            return None
        stops = second_stops(whole.group(1), match.group(2))
        if stops is None:
            return None
        before = length
        lines.append((length, stops))
    return lines if before is not None and len(lines) <= 512 else None


def timed(lines):
    """The moments as (place, begin, length, stops), the bars as (place, unit), and where the piece ends."""
    moments, bars, unit = [], [], 0
    for place, line in enumerate(lines):
        if line == BAR:
            bars.append((place, unit))
        else:
            moments.append((place, unit, line[0], line[1]))
            unit += line[0]
    return moments, bars, unit


def second_sounding(lines, ring):
    """Of each stop with a fret from 1 on: its course, its fret, the units at which it begins and ends."""
    moments, bars, piece_end = timed(lines)
    found = []
    for number, (place, begin, length, stops) in enumerate(moments):
        for course, fret in stops:
            again = [m[1] for m in moments[number + 1:] if course in dict(m[3])]
            end = begin + length if ring == 0 else min(again, default=piece_end)
            if ring == 2:
                end = min([end] + [unit for bar, unit in bars if bar > place])
            if fret > 0:
                found.append((course, fret, begin, end))
    return found


def second_held(lines, ring, i):
    """The held stops of moment i, straight by the document's words."""
    now = timed(lines)[0][i][1]
    return sorted((c, f) for c, f, begin, end in second_sounding(lines, ring) if begin <= now < end)


def second_kept(lines, ring, i):
    """The courses of the stops that are held from moment i to the next."""
    now, then = timed(lines)[0][i][1], timed(lines)[0][i + 1][1]
    struck = dict(timed(lines)[0][i + 1][3])
    return [
        course for course, _, begin, end in second_sounding(lines, ring)
        if begin <= now and end > then and course not in struck
    ]


def second_answer(ring, i, t):
    if len(t) > 65536:
        return [-2]
    lines = second_lines(bytes(t).decode("latin-1"))
    if lines is None:
        return [-6]
    if ring > 2:
        return [-1]
    if i >= sum(line != BAR for line in lines):
        return [-4]
    stops = second_held(lines, ring, i)
    return [len(stops)] + [number for stop in stops for number in stop]


def is_second_grip(stops, position, fingers):
    """The three points of a grip, one after another."""
    for (_, fret), finger in zip(stops, fingers):
        if not position + finger - 2 <= fret <= position + finger:
            return False
    stopped = {finger: [s for s, own in zip(stops, fingers) if own == finger] for finger in (1, 2, 3, 4)}
    for finger, places in stopped.items():
        if len(places) > 1 and (finger != 1 or len({fret for _, fret in places}) > 1):
            return False
    for f, g in itertools.combinations((1, 2, 3, 4), 2):
        for (f_course, a), (g_course, b) in itertools.product(stopped[f], stopped[g]):
            if a > b or (a == b and f_course < g_course):
                return False
    return True


@functools.lru_cache(maxsize=None)
def second_grips(stops):
    """Every grip of a tuple of held stops, by trying all positions and all fingers; in their order."""
    return [
        (position, fingers)
        for position in range(1, 16)
        for fingers in itertools.product((1, 2, 3, 4), repeat=len(stops))
        if is_second_grip(stops, position, fingers)
    ]


@functools.lru_cache(maxsize=None)
def second_grip_counts(stops, grip):
    """How often each of the nine weights is paid for a grip."""
    position, fingers = grip
    counts = [0] * 9
    for finger in set(fingers):
        counts[finger] = 1
        (fret,) = {fret for (_, fret), own in zip(stops, fingers) if own == finger}
        counts[5] += abs(fret - (position + finger - 1))
    counts[6] = 1 if fingers.count(1) > 1 else 0
    return counts


@functools.lru_cache(maxsize=None)
def second_going_counts(stops, grip, later_stops, later_grip):
    """How often each of the nine weights is paid for going from one grip to the next."""
    places = [set(zip(stops, grip[1])), set(zip(later_stops, later_grip[1]))]
    in_both = set(grip[1]) & set(later_grip[1])
    resting = {finger for _, finger in places[0] & places[1]}
    return [abs(grip[0] - later_grip[0]), 0, 0, 0, 0, 0, 0, len(in_both - resting), 0]


class Listing:
    """All plans of a short piece, by going through all grips of all moments."""

    def __init__(self, lines, ring):
        self.moments = sum(line != BAR for line in lines)
        self.stops = [tuple(second_held(lines, ring, i)) for i in range(self.moments)]
        self.kept = [second_kept(lines, ring, i) for i in range(self.moments - 1)]
        self.grips = [second_grips(stops) for stops in self.stops]
        self.found = None

    def size(self):
        """As many plans there are at most."""
        product = 1
        for grips in self.grips:
            product *= len(grips)
        return product

    def keeps(self, i, grip, later_grip):
        """Whether each stop that is held from moment i to the next keeps its finger."""
        finger = dict(zip(self.stops[i], grip[1]))
        later = dict(zip(self.stops[i + 1], later_grip[1]))
        return all(later[stop] == finger[stop] for stop in finger if stop[0] in self.kept[i])

    def beginnings(self, moments):
        """All plans of the first so many moments."""
        if moments == 0:
            return [()]
        return [
            plan + (grip,) for plan in self.beginnings(moments - 1) for grip in self.grips[moments - 1]
            if not plan or self.keeps(moments - 2, plan[-1], grip)
        ]

    def plans(self):
        """Each plan, with how often it pays each of the nine weights."""
        if self.found is None:
            self.found = [(plan, self.counts(plan)) for plan in self.beginnings(self.moments)]
        return self.found

    def counts(self, plan):
        parts = [second_grip_counts(stops, grip) for stops, grip in zip(self.stops, plan)]
        for i in range(len(plan) - 1):
            parts.append(second_going_counts(self.stops[i], plan[i], self.stops[i + 1], plan[i + 1]))
        parts.append([0] * 8 + [plan[0][0] - 1])
        return [sum(column) for column in zip(*parts)]

    def costs(self, w):
        """Each plan behind what it costs."""
        return [(sum(map(int.__mul__, w, counts)), plan) for plan, counts in self.plans()]

    def text(self, plan):
        rows = []
        for stops, (position, fingers) in zip(self.stops, plan):
            rows.append(str(position) + "".join(f" {c}:{own}" for (c, _), own in zip(stops, fingers)) + "\n")
        return "".join(rows)


NUMBER_PATTERN = "(0|[1-9][0-9]{0,2})"


def second_judge(listing, w, text):
    """What judge is to answer of a plan's text, of the piece that is listed."""
    rows = re.findall("[^\n]*\n", text)
    rest = text[sum(map(len, rows)):]
    plan = []
    for number in range(max(listing.moments, len(rows) + (rest != ""))):
        if number >= listing.moments or number >= len(rows):
            return [-9, number]
        wanted = "".join(f" {course}:{NUMBER_PATTERN}" for course, _ in listing.stops[number])
        match = re.fullmatch(NUMBER_PATTERN + wanted + "\n", rows[number])
        if not match:
            return [-9, number]
        numbers = [int(group) for group in match.groups()]
        plan.append((numbers[0], tuple(numbers[1:])))
    for number, grip in enumerate(plan):
        if grip not in listing.grips[number] or number and not listing.keeps(number - 1, plan[number - 1], grip):
            return [-5, number]
    return [sum(map(int.__mul__, w, listing.counts(plan)))]


def alone(number, weight=1):
    """Nine weights, all 0 but one."""
    return [weight if k == number else 0 for k in range(9)]


class Dice:
    """Numbers that look thrown but are the same each time."""

    def __init__(self, seed):
        self.state = seed

    def below(self, limit):
        self.state = (self.state * 6364136223846793005 + 1442695040888963407) % 2**64
        return (self.state >> 33) % limit

    def one_of(self, choices):
        return choices[self.below(len(choices))]

    def stops(self):
        often = 1 + self.below(4)
        return [
            (course, self.below(16) if course < 7 and self.below(4) else 0)
            for course in range(1, 15) if self.below(4) < often and self.below(2)
        ]

    def near_stops(self, most_courses=14):
        """Stops that a hand can often hold at once: their frets lie close together."""
        lowest = self.below(15)
        often = 1 + self.below(3)
        return [
            (course, min(15, lowest + self.below(4)) if course < 7 and self.below(6) else 0)
            for course in range(1, most_courses + 1) if self.below(6) < often
        ]

    def weights(self):
        """Nine weights: all 0, one alone, or all nine, small or great."""
        sort = self.below(5)
        if sort < 2:
            return alone(self.below(9), self.below(3))
        return [self.below((3, 10, 256)[sort - 2]) for _ in range(9)]

    def listed_lines(self, most_plans=3000):
        """A short piece of which all plans can be listed, with each way of ringing."""
        while True:
            lowest, often = self.below(14), 1 + self.below(3)
            lines = self.lines(6, lambda: [
                (course, min(15, lowest + self.below(5))) for course in range(1, 7) if self.below(6) < often
            ])
            if all(Listing(lines, ring).size() <= most_plans for ring in range(3)):
                return lines

    def lines(self, most, stops=None):
        stops = stops or self.stops
        lengths = sorted(SIGN_OF_LENGTH)[:1 + self.below(13)]
        lines = [
            BAR if self.below(4) == 0 else (self.one_of(lengths), stops())
            for _ in range(self.below(most))
        ]
        lines.insert(self.below(len(lines) + 1), (self.one_of(lengths), stops()))
        return lines
