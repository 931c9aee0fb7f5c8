"""The cheapest plans of a piece's moments: the first of them, and how many they are; and how far a plan can go.

Of each grip of a moment it is enough to know the cheapest way to go on from it to the piece's end.
"""

from lutefingers.costs import going_cost, grip_cost, starting_cost
from lutefingers.fingers import find_grips, keeps_fingers

MOST_COUNTED = 1000000000


# grips: all that the moment has, in their order.
# ways: the cheapest way from each of these grips on, None where none goes to the piece's end.
class Stage:
    def __init__(self, moment):
        self.stops = moment.stops
        self.ties = moment.ties
        self.grips = find_grips(moment.stops)
        self.ways = []


# cost: what is still to be paid from here to the piece's end.
# count: how many ways cost as little; no more than MOST_COUNTED are counted.
# follower: the place of the grip to go to among those of the next moment; None behind the last one.
class Way:
    def __init__(self, cost, count, follower):
        self.cost = cost
        self.count = count
        self.follower = follower


class Plan:
    def __init__(self, cost, grips):
        self.cost = cost
        self.grips = grips


def cheapest_of(stage, goings):
    """The cheapest way that goes to a grip of this stage, the first of those that cost as little; or None.

    goings says what it costs to go to each of the grips, None where that can't be.
    """
    found = None
    for place, going in enumerate(goings):
        way = stage.ways[place]
        if going is None or way is None:
            continue
        cost = going + way.cost
        if found is None or cost < found.cost:
            found = Way(cost, way.count, place)
        elif cost == found.cost:
            found.count = min(found.count + way.count, MOST_COUNTED)
    return found


def find_goings(stage, grip, later, w):
    """What it costs to go from this grip to each grip of the later stage, None where a finger isn't kept."""
    goings = []
    for later_grip in later.grips:
        if keeps_fingers(later.ties, grip, later_grip):
            goings.append(going_cost(stage.stops, grip, later.stops, later_grip, w))
        else:
            goings.append(None)
    return goings


def ways_from(stage, later, w):
    """The ways of a stage; later is the stage behind it, None behind the last one."""
    ways = []
    for grip in stage.grips:
        way = Way(0, 1, None)
        if later is not None:
            way = cheapest_of(later, find_goings(stage, grip, later, w))
        if way is not None:
            way.cost += grip_cost(stage.stops, grip, w)
        ways.append(way)
    return ways


def find_stages(moments, w):
    """A stage for each moment, with its ways."""
    stages = [Stage(moment) for moment in moments]
    later = None
    for place in range(len(stages) - 1, -1, -1):
        stage = stages[place]
        stage.ways = ways_from(stage, later, w)
        later = stage
    return stages


def whole_way(stages, w):
    """The way through all stages, or None."""
    return cheapest_of(stages[0], [starting_cost(grip, w) for grip in stages[0].grips])


def cheapest_plan(moments, w):
    """The first of the cheapest plans; None if there is none."""
    stages = find_stages(moments, w)
    way = whole_way(stages, w)
    if way is None:
        return None
    plan = Plan(way.cost, [])
    for stage in stages:
        plan.grips.append(stage.grips[way.follower])
        way = stage.ways[way.follower]
    return plan


def count_cheapest(moments, w):
    """What a cheapest plan costs and how many cost as little, as a tuple; None if there is no plan."""
    way = whole_way(find_stages(moments, w), w)
    if way is None:
        return None
    return (way.cost, way.count)


def can_follow(moment, grip, reached):
    """Whether this grip of the moment keeps the fingers of one of the reached grips of the moment before."""
    return any([keeps_fingers(moment.ties, before, grip) for before in reached])


def count_playable(moments):
    """How many moments, from the first on, a plan can have at most."""
    reached = []
    for number, moment in enumerate(moments):
        grips = find_grips(moment.stops)
        if number > 0:
            grips = [grip for grip in grips if can_follow(moment, grip, reached)]
        if grips == []:
            return number
        reached = grips
    return len(moments)
