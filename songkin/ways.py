"""The ways from one tune to another: what one costs, the least cost, how many cost so much, the first of them."""

from songkin.errors import NoWay
from songkin.laid import TAKES, Laid


class Cheapest:
    """The cheapest ways from one tune to another."""

    def __init__(self, least, many, way):
        self.least = least
        self.many = many
        self.way = way


def way_cost(costs, first, second, steps):
    """Give what the steps cost, if they are a way from the first tune to the second."""
    laid = Laid(costs, first, second)
    total = 0
    i = 0
    j = 0
    for step in steps:
        if not laid.fits(step, i, j):
            raise NoWay()
        total += laid.weights[step][i][j]
        i += TAKES[step][0]
        j += TAKES[step][1]
    if i < len(first) or j < len(second):
        raise NoWay()
    return total


def least_cost(costs, first, second):
    """Give what the cheapest way from the first tune to the second costs."""
    return all_least(Laid(costs, first, second))[0][0]


def cheapest_ways(costs, first, second):
    """Give the cheapest ways from the first tune to the second."""
    laid = Laid(costs, first, second)
    least = all_least(laid)
    return Cheapest(least[0][0], how_many(laid, least), first_way(laid, least))


def all_least(laid):
    """Give what the cheapest way from each place to the ends costs: a row for each place in the first tune."""
    end = laid.first_many
    least = [[] for i in range(end + 1)]
    gaps = laid.weights[2][end]
    least[end] = [sum(gaps[j:]) for j in range(len(gaps) + 1)]
    for i in range(end - 1, -1, -1):
        least[i] = with_step_2(least_without_step_2(laid, least, i), laid.weights[2][i])
    return least


def least_without_step_2(laid, least, i):
    """Give the least costs from one place in the first tune, if the next step is any but step 2."""
    row = costs_by_step(laid, least, 1, i)
    for step in range(len(TAKES)):
        if step != 1 and step != 2 and i + TAKES[step][0] <= laid.first_many:
            row = lower_of(row, costs_by_step(laid, least, step, i))
    return row


def costs_by_step(laid, least, step, i):
    """Give what the step and then the cheapest way costs, from each place in the second tune where it fits."""
    then = least[i + TAKES[step][0]][TAKES[step][1]:]
    return [weight + after for weight, after in zip(laid.weights[step][i], then)]


def lower_of(row, shorter):
    """Give the lower numbers of two rows at each place, and the row's own where the shorter one has ended."""
    lower = [one if one < other else other for one, other in zip(row, shorter)]
    return lower + row[len(shorter):]


def with_step_2(row, gaps):
    """Give the least costs in a row, if the next step may be step 2 as well, which stays in the row."""
    lower = list(row)
    for j in range(len(gaps) - 1, -1, -1):
        lower[j] = min(row[j], gaps[j] + lower[j + 1])
    return lower


def how_many(laid, least):
    """Give how many ways cost the least."""
    many = {}
    for i in range(laid.first_many, -1, -1):
        for j in range(laid.second_many, -1, -1):
            steps = cheapest_steps(laid, least, i, j)
            many[(i, j)] = sum([many[(i + TAKES[step][0], j + TAKES[step][1])] for step in steps])
            if i == laid.first_many and j == laid.second_many:
                many[(i, j)] = 1
    return many[(0, 0)]


def first_way(laid, least):
    """Give the steps of the first of the cheapest ways."""
    way = []
    i = 0
    j = 0
    while i < laid.first_many or j < laid.second_many:
        step = cheapest_steps(laid, least, i, j)[0]
        way.append(step)
        i += TAKES[step][0]
        j += TAKES[step][1]
    return way


def cheapest_steps(laid, least, i, j):
    """Give the steps with which the cheapest ways go on from a place, the lowest number first."""
    return [step for step in range(len(TAKES)) if is_cheapest(laid, least, step, i, j)]


def is_cheapest(laid, least, step, i, j):
    """Tell whether a cheapest way goes on from a place with this step."""
    if not laid.fits(step, i, j):
        return False
    then = least[i + TAKES[step][0]][j + TAKES[step][1]]
    return laid.weights[step][i][j] + then == least[i][j]
