"""What the costs are, and what it costs that one note stands for another."""

from songkin.errors import NotAsTold

HIGHEST_COST = 10000


class Costs:
    """The five costs by which steps are weighed."""

    def __init__(self, key, rest, long, gap, more):
        self.key = key
        self.rest = rest
        self.long = long
        self.gap = gap
        self.more = more


def costs_of(numbers):
    """Give the costs that five numbers tell: key, rest, long, gap and more."""
    if max(numbers) > HIGHEST_COST:
        raise NotAsTold()
    return Costs(numbers[0], numbers[1], numbers[2], numbers[3], numbers[4])


def pair_cost(costs, one, other):
    """Give what it costs that one note stands for the other, their lengths aside."""
    if one.key is None and other.key is None:
        return 0
    if one.key is None or other.key is None:
        return costs.rest
    return costs.key * abs(one.key - other.key)
