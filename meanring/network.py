"""The roads as they are kept, and the calls that change and tell them.

The roads are a list of ten places, one for each road's number: None where there
is no road, else the road as (from where, to where, cost). Each call is answered
by a list of numbers; a refusal is a list of one number below 0.
"""

LAST_TOWN = 5
LAST_ROAD = 9
LARGEST_COST = 1000000

CANNOT_BE = -1
NO_PLACE_LEFT = -2
NO_SUCH_ROAD = -3


def no_roads():
    return [None] * (LAST_ROAD + 1)


def roads_there(roads):
    return [kept for kept in roads if kept is not None]


def cost_can_be(cost):
    return -LARGEST_COST <= cost <= LARGEST_COST


def lowest_free(roads):
    """The lowest number that no road has, or None."""
    for e, kept in enumerate(roads):
        if kept is None:
            return e
    return None


def add_road(roads, u, v, cost):
    if u > LAST_TOWN or v > LAST_TOWN or not cost_can_be(cost):
        return [CANNOT_BE]
    e = lowest_free(roads)
    if e is None:
        return [NO_PLACE_LEFT]
    roads[e] = (u, v, cost)
    return [e]


def drop_road(roads, e):
    if e > LAST_ROAD:
        return [CANNOT_BE]
    if roads[e] is None:
        return [NO_SUCH_ROAD]
    roads[e] = None
    return [0]


def set_cost(roads, e, cost):
    # A cost that can't be is refused ahead of a road that's not there.
    if e > LAST_ROAD or not cost_can_be(cost):
        return [CANNOT_BE]
    if roads[e] is None:
        return [NO_SUCH_ROAD]
    kept = roads[e]
    roads[e] = (kept[0], kept[1], cost)
    return [0]


def tell_road(roads, e):
    if e > LAST_ROAD:
        return [CANNOT_BE]
    if roads[e] is None:
        return [NO_SUCH_ROAD]
    return list(roads[e])


def count_roads(roads):
    return [len(roads_there(roads))]
