"""Calls on one new set of roads, handed in as one list of whole numbers."""

from meanring.means import check_prices, check_ring, tell_below, tell_least
from meanring.network import add_road, count_roads, drop_road, no_roads, set_cost, tell_road

ADD = 0
DROP = 1
COST = 2
ROAD = 3
COUNT = 4
LEAST = 5
BELOW = 6
CHECK = 7
CHECK_PRICE = 8

# How many numbers stand behind each call's own number, ahead of its row.
SIZES = (3, 1, 2, 1, 0, 0, 2, 3, 3)


def answer_call(roads, call, given, row):
    if call == ADD:
        return add_road(roads, given[0], given[1], given[2])
    if call == DROP:
        return drop_road(roads, given[0])
    if call == COST:
        return set_cost(roads, given[0], given[1])
    if call == ROAD:
        return tell_road(roads, given[0])
    if call == COUNT:
        return count_roads(roads)
    if call == LEAST:
        return tell_least(roads)
    if call == BELOW:
        return tell_below(roads, given[0], given[1])
    if call == CHECK:
        return check_ring(roads, row, given[0], given[1])
    return check_prices(roads, row, given[0], given[1])


def row_size(call, given):
    """How many numbers the call's row has: the last of those ahead of it tells, where there's a row."""
    return given[-1] if call in (CHECK, CHECK_PRICE) else 0


def answers(calls):
    """For each call, in order: how many numbers are answered, then these."""
    roads = no_roads()
    told = []
    at = 0
    while at < len(calls):
        call = calls[at]
        row_at = at + 1 + SIZES[call]
        given = calls[at + 1:row_at]
        behind = row_at + row_size(call, given)
        answer = answer_call(roads, call, given, calls[row_at:behind])
        told.append(len(answer))
        told.extend(answer)
        at = behind
    return told
