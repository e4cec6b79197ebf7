"""The ways from one tune to another: the least cost, how many ways cost so much, the first of them."""

from songkin.costs import step_cost

# For each step by its number: how many notes it takes of the first tune, and of the second.
TAKES = ((1, 1), (1, 0), (0, 1), (1, 2), (1, 3), (1, 4), (2, 1), (3, 1), (4, 1))


class Onward:
    """The cheapest ways from a place in both tunes to their ends."""

    def __init__(self, least, many, step):
        self.least = least
        self.many = many
        self.step = step


class Cheapest:
    """The cheapest ways from one tune to another."""

    def __init__(self, least, many, way):
        self.least = least
        self.many = many
        self.way = way


def cheapest_ways(costs, first, second):
    """Give the cheapest ways from the first tune to the second."""
    onwards = all_onward(costs, first, second)
    start = onwards[(0, 0)]
    return Cheapest(start.least, start.many, first_way(onwards, first, second))


def all_onward(costs, first, second):
    """Give the cheapest ways to the ends for each place: how many notes of each tune are taken."""
    onwards = {}
    # From the ends backwards, so that the lowest step at each place is known when the first way is followed.
    for i in range(len(first), -1, -1):
        for j in range(len(second), -1, -1):
            onwards[(i, j)] = onward_from(costs, first, second, i, j, onwards)
    return onwards


def onward_from(costs, first, second, i, j, onwards):
    """Give the cheapest ways from one place, when those of all places behind it are known."""
    if i == len(first) and j == len(second):
        return Onward(0, 1, None)
    found = None
    for step in range(len(TAKES)):
        i_then = i + TAKES[step][0]
        j_then = j + TAKES[step][1]
        if i_then <= len(first) and j_then <= len(second):
            then = onwards[(i_then, j_then)]
            least = step_cost(costs, first[i:i_then], second[j:j_then]) + then.least
            if found is None or least < found.least:
                found = Onward(least, then.many, step)
            elif least == found.least:
                # The steps come by their numbers, so the one that is kept is the lowest of the cheapest.
                found.many += then.many
    return found


def first_way(onwards, first, second):
    """Give the steps of the first of the cheapest ways."""
    way = []
    i = 0
    j = 0
    while i < len(first) or j < len(second):
        step = onwards[(i, j)].step
        way.append(step)
        i += TAKES[step][0]
        j += TAKES[step][1]
    return way
