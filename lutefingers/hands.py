"""The calls: what a hand has to hold in a lute piece, and how it can.

A refusal is a list of its number alone: -2 too many bytes, -6 no piece's text, -1 no such way of ringing or no
such weights, -4 no such moment, -3 no plan. They are looked at in this order. Of judge alone there are two more,
last of all, with a place behind the number: -9 no plan's text, -5 no plan.
"""

from lutefingers.fingers import find_grips
from lutefingers.judging import first_fault, plan_cost
from lutefingers.moments import held_moments
from lutefingers.pieces import NoPiece, read_piece
from lutefingers.plans import cheapest_plan, count_cheapest, count_playable
from lutefingers.plantexts import NoPlanText, read_plan, write_plan

MOST_BYTES = 65536
MOST_PLAN_BYTES = 262144
LAST_RINGING = 2
WEIGHTS = 9
MOST_WEIGHT = 255


# refusal: the number of what is refused, or 0; then moments are those of the piece.
class Reading:
    def __init__(self, refusal, moments):
        self.refusal = refusal
        self.moments = moments


def read_moments(ring, t):
    """The moments of the piece whose text t is, or what is refused."""
    if len(t) > MOST_BYTES:
        return Reading(-2, [])
    try:
        lines = read_piece(t)
    except NoPiece:
        return Reading(-6, [])
    if ring > LAST_RINGING:
        return Reading(-1, [])
    return Reading(0, held_moments(lines, ring))


def read_weighed(ring, t, w):
    """The same, for a call that takes weights too."""
    reading = read_moments(ring, t)
    if reading.refusal == 0 and not are_weights(w):
        return Reading(-1, [])
    return reading


def are_weights(w):
    return len(w) == WEIGHTS and all([0 <= weight <= MOST_WEIGHT for weight in w])


def held(ring, i, t):
    """How many stops are held at moment i, then the course and the fret of each; or a refusal."""
    reading = read_moments(ring, t)
    if reading.refusal < 0:
        return [reading.refusal]
    if i >= len(reading.moments):
        return [-4]
    stops = reading.moments[i].stops
    answer = [len(stops)]
    for course, fret in stops:
        answer.append(course)
        answer.append(fret)
    return answer


def grips(ring, i, t):
    """How many grips moment i has; or a refusal."""
    reading = read_moments(ring, t)
    if reading.refusal < 0:
        return [reading.refusal]
    if i >= len(reading.moments):
        return [-4]
    return [len(find_grips(reading.moments[i].stops))]


def best(ring, t, w):
    """What the first of the cheapest plans costs, how many bytes its text has, then these; or a refusal."""
    reading = read_weighed(ring, t, w)
    if reading.refusal < 0:
        return [reading.refusal]
    plan = cheapest_plan(reading.moments, w)
    if plan is None:
        return [-3]
    text = write_plan(reading.moments, plan.grips)
    return [plan.cost, len(text)] + text


def many(ring, t, w):
    """What a cheapest plan costs, then how many plans cost as little; or a refusal."""
    reading = read_weighed(ring, t, w)
    if reading.refusal < 0:
        return [reading.refusal]
    counted = count_cheapest(reading.moments, w)
    if counted is None:
        return [-3]
    return list(counted)


def judge(ring, t, w, p):
    """What the plan costs whose text p is; or a refusal, -9 with a line and -5 with a moment behind it."""
    if len(p) > MOST_PLAN_BYTES:
        return [-2]
    reading = read_weighed(ring, t, w)
    if reading.refusal < 0:
        return [reading.refusal]
    try:
        told = read_plan(reading.moments, p)
    except NoPlanText as fault:
        return [-9, fault.line]
    faulty = first_fault(reading.moments, told)
    if faulty is not None:
        return [-5, faulty]
    return [plan_cost(reading.moments, told, w)]


def stuck(ring, t):
    """How many moments at most, from the first on, a plan can have; or a refusal."""
    reading = read_moments(ring, t)
    if reading.refusal < 0:
        return [reading.refusal]
    return [count_playable(reading.moments)]
