"""Rounds: all that the roads make, the least of them, and whether given numbers are one.

A round, like a way, is a list of its roads' numbers, in order.
"""

from meanring.network import LAST_ROAD


def from_where(roads, e):
    return roads[e][0]


def to_where(roads, e):
    return roads[e][1]


def closes(roads, way):
    return to_where(roads, way[-1]) == from_where(roads, way[0])


def may_follow(roads, way, e):
    """Whether road e leads from the way's end, and that's a town above its first and not left before."""
    town = from_where(roads, e)
    if town != to_where(roads, way[-1]) or town <= from_where(roads, way[0]):
        return False
    return town not in [from_where(roads, passed) for passed in way]


def longer_ways(roads, ways, numbers):
    """The ways with one road more, in the order of the ways, then of the road's number."""
    longer = []
    for way in ways:
        longer.extend([way + [e] for e in numbers if may_follow(roads, way, e)])
    return longer


def all_rounds(roads):
    """Every round as it's told: the shorter first, then the one with the lower number where two first differ."""
    numbers = [e for e, kept in enumerate(roads) if kept is not None]
    found = []
    # Each way's first town stays its lowest, so that every round comes once, and as it's told.
    ways = [[e] for e in numbers]
    while ways:
        found.extend([way for way in ways if closes(roads, way)])
        ways = longer_ways(roads, ways, numbers)
    return found


def sum_of(roads, ring):
    return sum([roads[e][2] for e in ring])


def mean_is_below(roads, ring, num, den):
    return sum_of(roads, ring) * den < num * len(ring)


def least_round(roads):
    """The least round as it's told, or None if there's no round."""
    least = None
    for ring in all_rounds(roads):
        # Of those with the same mean the first one stays: all_rounds has them in the order that ties ask for.
        if least is None or mean_is_below(roads, ring, sum_of(roads, least), len(least)):
            least = ring
    return least


def road_is_there(roads, e):
    return e <= LAST_ROAD and roads[e] is not None


def is_round(roads, ring):
    """Whether these are the numbers of a round's roads, in order, from whichever of them on."""
    if len(ring) == 0 or not all([road_is_there(roads, e) for e in ring]):
        return False
    left = {}
    at = to_where(roads, ring[-1])
    for e in ring:
        town = from_where(roads, e)
        if town != at or town in left:
            return False
        left[town] = True
        at = to_where(roads, e)
    return True
