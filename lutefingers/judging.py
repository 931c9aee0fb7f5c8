"""Whether grips that somebody tells are a plan, and what it costs.

What is told in the place of a grip is a tuple like one: any position, and for each held stop any finger.
"""

from lutefingers.costs import going_cost, grip_cost, starting_cost
from lutefingers.fingers import is_grip, keeps_fingers


def first_fault(moments, told):
    """The first moment whose grip is none, or doesn't keep a finger; None if the grips are a plan."""
    for number, moment in enumerate(moments):
        if not is_grip(moment.stops, told[number]):
            return number
        if number > 0 and not keeps_fingers(moment.ties, told[number - 1], told[number]):
            return number
    return None


def plan_cost(moments, grips, w):
    cost = starting_cost(grips[0], w)
    for number, moment in enumerate(moments):
        cost += grip_cost(moment.stops, grips[number], w)
        if number > 0:
            cost += going_cost(moments[number - 1].stops, grips[number - 1], moment.stops, grips[number], w)
    return cost
