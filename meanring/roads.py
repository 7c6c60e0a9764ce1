"""Calls on one new set of roads, handed in as one list of whole numbers."""

from meanring.network import add_road, count_roads, drop_road, no_roads, set_cost, tell_road

ADD = 0
DROP = 1
COST = 2
ROAD = 3
COUNT = 4

# How many numbers stand behind each call's own number.
SIZES = (3, 1, 2, 1, 0)


def answer_call(roads, call, given):
    if call == ADD:
        return add_road(roads, given[0], given[1], given[2])
    if call == DROP:
        return drop_road(roads, given[0])
    if call == COST:
        return set_cost(roads, given[0], given[1])
    if call == ROAD:
        return tell_road(roads, given[0])
    return count_roads(roads)


def answers(calls):
    """For each call, in order: how many numbers are answered, then these."""
    roads = no_roads()
    told = []
    at = 0
    while at < len(calls):
        call = calls[at]
        behind = at + 1 + SIZES[call]
        answer = answer_call(roads, call, calls[at + 1:behind])
        told.append(len(answer))
        told.extend(answer)
        at = behind
    return told
