"""What the tests share: calls written as lists, answers read call by call, and a search of all ways."""

from songkin.family import answers

REST = -1
ONES = (1, 1, 1, 1, 1)


def begins(key, rest, long, gap, more):
    return [0, key, rest, long, gap, more]


def tune(*notes):
    """The call that hands in these notes, each a pair of its key and its length."""
    numbers = [number for note in notes for number in note]
    return [1, len(numbers)] + numbers


def drop(k):
    return [2, k]


def best(i, j):
    return [3, i, j]


def told(*calls):
    """The answers to these calls as a list of lists, one for each call."""
    answered = answers([number for call in calls for number in call])
    by_call = []
    at = 0
    while at < len(answered):
        end = at + 1 + answered[at]
        by_call.append(answered[at + 1:end])
        at = end
    assert at == len(answered), "the last answer is shorter than it says"
    assert len(by_call) == len(calls), "not one answer for each call"
    return by_call


def best_told(least, many, way):
    """How best answers this cost, this count and this way."""
    return [least, 1, many, len(way)] + list(way)


def best_between(costs, first, second):
    """What best answers for two tunes at these costs."""
    return told(begins(*costs), tune(*first), tune(*second), best(0, 1))[-1]


def best_by_search(costs, first, second):
    """What best is to answer, found by weighing every way there is."""
    weighed = sorted(all_ways(costs, first, second))
    least = weighed[0][0]
    return best_told(least, len([way for way in weighed if way[0] == least]), weighed[0][1])


def all_ways(costs, first, second):
    """Every way from the first tune to the second, each as its cost and its steps."""
    if not first and not second:
        return [(0, ())]
    ways = []
    for step, (of_first, of_second) in enumerate(
            [(1, 1), (1, 0), (0, 1), (1, 2), (1, 3), (1, 4), (2, 1), (3, 1), (4, 1)]):
        if of_first <= len(first) and of_second <= len(second):
            here = cost_by_words(costs, step, first[:of_first], second[:of_second])
            for cost, steps in all_ways(costs, first[of_first:], second[of_second:]):
                ways.append((here + cost, (step,) + steps))
    return ways


def cost_by_words(costs, step, ones, others):
    """What a step costs, as the document's words say it."""
    key, rest, long, gap, more = costs
    if step == 1:
        return gap * ones[0][1]
    if step == 2:
        return gap * others[0][1]
    pairs = 0
    for one, _ in ones:
        for other, _ in others:
            if one == REST and other == REST:
                pairs += 0
            elif REST in (one, other):
                pairs += rest
            else:
                pairs += key * abs(one - other)
    longer = abs(sum(length for _, length in ones) - sum(length for _, length in others))
    split = {0: 0, 3: 1, 4: 2, 5: 3, 6: 1, 7: 2, 8: 3}[step]
    return pairs + long * longer + more * split
