"""What a hand has to hold at each moment of a piece, by a way of ringing."""

UNTIL_MOMENT_ENDS = 0
UNTIL_BAR = 2


# stops: the held stops, by courses.
# ties: of each stop that is held on from the moment before, its place among that one's stops, then among these.
class Moment:
    def __init__(self, stops, ties):
        self.stops = stops
        self.ties = ties


def find_ties(stops_before, stops, struck):
    """The ties of a moment at which the stops in struck are struck."""
    struck_courses = [course for course, fret in struck]
    ties = []
    for place, stop in enumerate(stops):
        # What is held and not struck now has sounded on, so the moment before held it too.
        if stop[0] not in struck_courses:
            ties.append((stops_before.index(stop), place))
    return ties


def held_moments(lines, ring):
    """The moments of a piece's lines."""
    # A course struck anew, at whatever fret, ends what it sounded: one fret a course is enough.
    sounding = {}
    stops_before = []
    moments = []
    for line in lines:
        if line is None:
            # A bar stands where the next moment begins, so nothing from before it sounds there.
            if ring == UNTIL_BAR:
                sounding = {}
            continue
        if ring == UNTIL_MOMENT_ENDS:
            sounding = {}
        for course, fret in line[1]:
            sounding[course] = fret
        stops = [(course, sounding[course]) for course in sorted(sounding) if sounding[course] > 0]
        moments.append(Moment(stops, find_ties(stops_before, stops, line[1])))
        stops_before = stops
    return moments
