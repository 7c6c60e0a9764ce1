"""meanring: the cheapest round, road for road."""
