"""Two tunes laid side by side, and what each step costs from each place in them."""

from songkin.costs import pair_cost

# For each step by its number: how many notes it takes of the first tune, and of the second.
TAKES = ((1, 1), (1, 0), (0, 1), (1, 2), (1, 3), (1, 4), (2, 1), (3, 1), (4, 1))
MOST_TAKEN = 4


class Laid:
    """Two tunes side by side: how many notes each has, and what each step costs from each place.

    A place is how many notes of each tune are taken: weights[step][i][j] is what that step costs from place i, j.
    """

    def __init__(self, costs, first, second):
        self.first_many = len(first)
        self.second_many = len(second)
        self.weights = all_weights(costs, first, second)

    def fits(self, step, i, j):
        """Tell whether as many notes as the step takes are left from this place on."""
        return i + TAKES[step][0] <= self.first_many and j + TAKES[step][1] <= self.second_many


def all_weights(costs, first, second):
    """Give for each step, by its number, what it costs from each place where it fits."""
    pairs = [pair_costs(costs, one, second) for one in first]
    # A step of several notes is weighed by the one that takes a note less, as this is much faster than afresh.
    sums_3 = sums_wider(pairs, pairs, 1)
    sums_4 = sums_wider(sums_3, pairs, 2)
    sums_6 = sums_deeper(pairs, pairs, 1)
    sums_7 = sums_deeper(sums_6, pairs, 2)
    sums = [pairs, None, None, sums_3, sums_4, sums_wider(sums_4, pairs, 3),
            sums_6, sums_7, sums_deeper(sums_7, pairs, 3)]
    first_spans = all_spans(first)
    second_spans = all_spans(second)
    weights = []
    for step in range(len(TAKES)):
        if step == 1:
            weights.append([[costs.gap * one.length] * (len(second) + 1) for one in first])
        elif step == 2:
            weights.append([[costs.gap * other.length for other in second]] * (len(first) + 1))
        else:
            weights.append(weights_of_both(costs, step, sums[step], first_spans, second_spans))
    return weights


def pair_costs(costs, one, others):
    """Give what it costs that the one note stands for each of the others, their lengths aside."""
    return [pair_cost(costs, one, other) for other in others]


def sums_wider(sums, pairs, many):
    """Give the sums over one note more of the second tune than the so many that are summed up already."""
    return [both_added(sums[i], pairs[i][many:]) for i in range(len(pairs))]


def sums_deeper(sums, pairs, many):
    """Give the sums over one note more of the first tune than the so many that are summed up already."""
    return [both_added(sums[i], pairs[i + many]) for i in range(len(pairs) - many)]


def both_added(ones, others):
    """Give the sums of the numbers at the same places, as far as both lists go."""
    return [one + other for one, other in zip(ones, others)]


def all_spans(notes):
    """Give for each number of notes up to the most that a step takes how long so many are from each place."""
    spans = [[0] * len(notes)]
    for many in range(MOST_TAKEN):
        spans.append(both_added(spans[many], [note.length for note in notes[many:]]))
    return spans


def weights_of_both(costs, step, sums, first_spans, second_spans):
    """Give what a step that takes notes of both tunes costs from each place where it fits."""
    more = costs.more * (max(TAKES[step][0], TAKES[step][1]) - 1)
    spans = first_spans[TAKES[step][0]]
    other_spans = second_spans[TAKES[step][1]]
    return [weights_in_row(costs.long, more, sums[i], spans[i], other_spans) for i in range(len(sums))]


def weights_in_row(long, more, sums, span, other_spans):
    """Give what a step costs from each place in the second tune, where so much of the first one is taken."""
    return [total + long * abs(span - other) + more for total, other in zip(sums, other_spans)]
