"""What a plan costs: its first position, its grips, and the goings from one grip to the next.

w is the list of the nine weights. Weights 1 to 4 are those of the fingers 1 to 4.
"""

from lutefingers.fingers import BARRE_FINGER, FINGERS

SHIFT = 0
STRETCH = 5
BARRE = 6
JUMP = 7
START = 8


def starting_cost(grip, w):
    """What it costs to begin with this grip, beside what the grip itself costs."""
    return w[START] * (grip[0] - 1)


def grip_cost(stops, grip, w):
    cost = 0
    for finger in FINGERS:
        if finger in grip[1]:
            # A finger that stops several places stops them on one fret, so the first of them tells it.
            fret = stops[grip[1].index(finger)][1]
            cost += w[finger] + w[STRETCH] * abs(fret - (grip[0] + finger - 1))
    if grip[1].count(BARRE_FINGER) > 1:
        cost += w[BARRE]
    return cost


def stopped_by(finger, stops, fingers):
    return [stop for stop, own in zip(stops, fingers) if own == finger]


def jumps(finger, stops, fingers, later_stops, later_fingers):
    """Whether the finger stops something at both moments, but no place at both."""
    if finger not in fingers or finger not in later_fingers:
        return False
    places = stopped_by(finger, stops, fingers)
    return not any([stop in places for stop in stopped_by(finger, later_stops, later_fingers)])


def going_cost(stops, grip, later_stops, later_grip, w):
    cost = w[SHIFT] * abs(grip[0] - later_grip[0])
    for finger in FINGERS:
        if jumps(finger, stops, grip[1], later_stops, later_grip[1]):
            cost += w[JUMP]
    return cost
