"""Numbers for all towns, town by town: prices and levels."""

from meanring.network import roads_there

TOWNS = 6

# A way that meets no town twice has at most so many roads: one fewer than there are towns.
LONGEST_WAY = 5


def prices_for(roads, num, den):
    """The prices for num / den, where no round's mean is below it."""
    prices = [0] * TOWNS
    # No round makes a way cheaper, so the ways that meet no town twice are enough.
    for length in range(LONGEST_WAY):
        for kept in roads_there(roads):
            through = prices[kept[0]] + den * kept[2] - num
            prices[kept[1]] = min(prices[kept[1]], through)
    return prices


def levels_of(roads):
    """Of each town the most roads of a way that leads to it, where there's no round."""
    levels = [0] * TOWNS
    # Where there's no round, no way meets a town twice.
    for length in range(LONGEST_WAY):
        for kept in roads_there(roads):
            levels[kept[1]] = max(levels[kept[1]], levels[kept[0]] + 1)
    return levels


def prices_hold(roads, prices, num, den):
    for kept in roads_there(roads):
        if den * kept[2] - num + prices[kept[0]] - prices[kept[1]] < 0:
            return False
    return True
