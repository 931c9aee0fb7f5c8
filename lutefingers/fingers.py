"""Which grips there are for the stops that are held at a moment.

A grip is a tuple (position, fingers); fingers is a tuple with a finger for each held stop, by courses.
"""

LAST_POSITION = 15
FINGERS = (1, 2, 3, 4)
BARRE_FINGER = 1


def can_reach(position, finger, fret):
    return position + finger - 2 <= fret <= position + finger


def go_together(stop, finger, other_stop, other_finger):
    """Whether one finger may stop the one while another, or the same one, stops the other."""
    if finger == other_finger:
        return finger == BARRE_FINGER and stop[1] == other_stop[1]
    if finger > other_finger:
        return go_together(other_stop, other_finger, stop, finger)
    if stop[1] == other_stop[1]:
        return stop[0] > other_stop[0]
    return stop[1] < other_stop[1]


def fits(stops, fingers, finger):
    """Whether this finger may stop the first stop that has none yet, beside what fingers stop already."""
    stop = stops[len(fingers)]
    return all([go_together(other, own, stop, finger) for other, own in zip(stops, fingers)])


def fingerings(stops, position):
    """The fingers of all grips at this position, those with lower fingers first."""
    # Every rule of a grip speaks of one stop or of two, so stop by stop what doesn't fit can be left out at once.
    begun = [()]
    for course, fret in stops:
        reaching = [finger for finger in FINGERS if can_reach(position, finger, fret)]
        longer = []
        for fingers in begun:
            for finger in reaching:
                if fits(stops, fingers, finger):
                    longer.append(fingers + (finger,))
        begun = longer
    return begun


def find_grips(stops):
    """All grips, in the order in which plans are put."""
    found = []
    for position in range(1, LAST_POSITION + 1):
        for fingers in fingerings(stops, position):
            found.append((position, fingers))
    return found


def is_grip(stops, grip):
    """Whether a tuple of any position and, for each stop, any finger, is a grip."""
    return grip in find_grips(stops)


def keeps_fingers(ties, grip, later_grip):
    """Whether each stop that is held on keeps its finger; the ties are those of the later grip's moment."""
    return all([grip[1][before] == later_grip[1][now] for before, now in ties])
