"""What the tests share: calls written as lists, answers read call by call, and a search of all ways."""

from songkin.family import answers

REST = -1
ONES = (1, 1, 1, 1, 1)
# For each step by its number: how many notes it takes of the first tune, and of the second.
TAKEN = [(1, 1), (1, 0), (0, 1), (1, 2), (1, 3), (1, 4), (2, 1), (3, 1), (4, 1)]
# Costs of many kinds: none, the highest, and such by which many ways are equal.
SOME_COSTS = [ONES, (0, 0, 0, 0, 0), (10000,) * 5, (1, 3, 1, 2, 1), (2, 1, 0, 1, 0), (0, 5, 2, 3, 1),
              (3, 0, 1, 1, 2), (10000, 10000, 0, 0, 0), (1, 2, 0, 10000, 0), (0, 1, 10000, 3, 10000)]


def begins(key, rest, long, gap, more):
    return [0, key, rest, long, gap, more]


def tune(*notes):
    """The call that hands in these notes, each a pair of its key and its length."""
    numbers = [number for note in notes for number in note]
    return [1, len(numbers)] + numbers


def drop(k):
    return [2, k]


def best(i, j):
    return [3, i, j]


def cost(i, j, *steps):
    return [4, i, j, len(steps)] + list(steps)


def shift(i, j):
    return [5, i, j]


def far():
    return [6]


def tree(root):
    return [7, root]


def told(*calls):
    """The answers to these calls as a list of lists, one for each call."""
    answered = answers([number for call in calls for number in call])
    by_call = []
    at = 0
    while at < len(answered):
        end = at + 1 + answered[at]
        by_call.append(answered[at + 1:end])
        at = end
    assert at == len(answered), "the last answer is shorter than it says"
    assert len(by_call) == len(calls), "not one answer for each call"
    return by_call


def best_told(least, many, way):
    """How best answers this cost, this count and this way."""
    return [least, 1, many, len(way)] + list(way)


def best_between(costs, first, second):
    """What best answers for two tunes at these costs."""
    return told(begins(*costs), tune(*first), tune(*second), best(0, 1))[-1]


def cost_between(costs, first, second, *steps):
    """What cost answers for two tunes at these costs and a row of steps."""
    return told(begins(*costs), tune(*first), tune(*second), cost(0, 1, *steps))[-1]


def shift_told(least, by):
    """How shift answers this cost and this number."""
    return [least, 1, by]


def shift_between(costs, first, second):
    """What shift answers for two tunes at these costs."""
    return told(begins(*costs), tune(*first), tune(*second), shift(0, 1))[-1]


def rows_told(rows):
    """How far and tree answer these rows."""
    return [len(rows)] + [number for row in rows for number in [len(row)] + list(row)]


def small_tunes(many, longest):
    """So many tunes, alike enough that ways are often equal; always the same ones."""
    number = 20250
    tunes = []
    for place in range(many):
        notes = []
        for _ in range(place % (longest + 1)):
            number = (number * 1103515245 + 12345) % 2147483648
            told_by = number // 65536
            notes.append((REST if told_by % 5 == 0 else 60 + told_by // 5 % 4, 1 + told_by // 20 % 4))
        tunes.append(notes)
    return tunes


def raised(notes, by):
    """The notes with their keys so many higher; rests stay."""
    return [(key if key == REST else key + by, length) for key, length in notes]


def best_by_search(costs, first, second):
    """What best is to answer, found by weighing every way there is."""
    weighed = sorted(all_ways(costs, first, second))
    least = weighed[0][0]
    return best_told(least, len([way for way in weighed if way[0] == least]), weighed[0][1])


def all_ways(costs, first, second):
    """Every way from the first tune to the second, each as its cost and its steps."""
    if not first and not second:
        return [(0, ())]
    ways = []
    for step, (of_first, of_second) in enumerate(TAKEN):
        if of_first <= len(first) and of_second <= len(second):
            here = cost_by_words(costs, step, first[:of_first], second[:of_second])
            for cost, steps in all_ways(costs, first[of_first:], second[of_second:]):
                ways.append((here + cost, (step,) + steps))
    return ways


def cost_by_words(costs, step, ones, others):
    """What a step costs, as the document's words say it."""
    key, rest, long, gap, more = costs
    if step == 1:
        return gap * ones[0][1]
    if step == 2:
        return gap * others[0][1]
    pairs = 0
    for one, _ in ones:
        for other, _ in others:
            if one == REST and other == REST:
                pairs += 0
            elif REST in (one, other):
                pairs += rest
            else:
                pairs += key * abs(one - other)
    longer = abs(sum(length for _, length in ones) - sum(length for _, length in others))
    split = {0: 0, 3: 1, 4: 2, 5: 3, 6: 1, 7: 2, 8: 3}[step]
    return pairs + long * longer + more * split


def least_by_words(costs, first, second):
    """What the cheapest way costs, step by step from the beginnings, as the document's words say it."""
    least = {(0, 0): 0}
    for i in range(len(first) + 1):
        for j in range(len(second) + 1):
            for step, (of_first, of_second) in enumerate(TAKEN):
                if i >= of_first and j >= of_second:
                    here = cost_by_words(costs, step, first[i - of_first:i], second[j - of_second:j])
                    here += least[(i - of_first, j - of_second)]
                    least[(i, j)] = min(here, least.get((i, j), here))
    return least[(len(first), len(second))]


def shift_by_words(costs, first, second):
    """What shift is to answer, found by weighing each move."""
    weighed = []
    for place, by in enumerate([0] + [sign * size for size in range(1, 25) for sign in (1, -1)]):
        # Both are raised by 1000 as well, so that no key moved below 0 is taken for a rest.
        weighed.append((least_by_words(costs, raised(first, 1000), raised(second, 1000 + by)), place, by))
    least, _, by = min(weighed)
    return shift_told(least, by)
