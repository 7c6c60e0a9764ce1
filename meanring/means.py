"""The calls that tell and check means; none of them changes the roads.

Each is answered by a list of numbers; a refusal is a list of one number below 0.
"""

from meanring.network import CANNOT_BE
from meanring.prices import TOWNS, levels_of, prices_for, prices_hold
from meanring.rounds import is_round, least_round, mean_is_below, sum_of

LARGEST_NUM = 1000000000
LARGEST_DEN = 1000


def mean_can_be_asked(num, den):
    return -LARGEST_NUM <= num <= LARGEST_NUM and 1 <= den <= LARGEST_DEN


def common_divisor(a, b):
    """The greatest number that divides both, which are not below 0 and not both 0."""
    while b != 0:
        rest = a % b
        a = b
        b = rest
    return a


def lowest_terms(num, den):
    shared = common_divisor(abs(num), den)
    return (num // shared, den // shared)


def tell_least(roads):
    ring = least_round(roads)
    if ring is None:
        return [0] + levels_of(roads)
    mean = lowest_terms(sum_of(roads, ring), len(ring))
    return [len(ring), mean[0], mean[1]] + ring + prices_for(roads, mean[0], mean[1])


def tell_below(roads, num, den):
    if not mean_can_be_asked(num, den):
        return [CANNOT_BE]
    ring = least_round(roads)
    if ring is not None and mean_is_below(roads, ring, num, den):
        return [len(ring)] + ring
    return [0] + prices_for(roads, num, den)


def check_ring(roads, ring, num, den):
    if not mean_can_be_asked(num, den):
        return [CANNOT_BE]
    if is_round(roads, ring) and sum_of(roads, ring) * den <= num * len(ring):
        return [1]
    return [0]


def check_prices(roads, prices, num, den):
    if not mean_can_be_asked(num, den):
        return [CANNOT_BE]
    if len(prices) == TOWNS and prices_hold(roads, prices, num, den):
        return [1]
    return [0]
