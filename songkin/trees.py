"""How far versions are apart, and the tree that comes of it: which version came of which."""

from songkin.ways import least_cost


def all_apart(costs, tunes):
    """Give for each tune how far it is from each."""
    # A tune is not apart from itself: to come to it, a row of steps 0 costs nothing.
    apart = [[0] * len(tunes) for tune in tunes]
    for i in range(len(tunes)):
        for j in range(i):
            # Each step has a mirrored one that costs the same, so the way back costs the same.
            least = least_cost(costs, tunes[i], tunes[j])
            apart[i][j] = least
            apart[j][i] = least
    return apart


def tree_from(apart, root):
    """Give the pairs of the tree from the root in the order in which they come.

    Each is the version that is in the tree, the one that is put to it, and how far they are apart.
    """
    inside = [root]
    pairs = []
    while len(inside) < len(apart):
        pair = nearest_pair(apart, sorted(inside))
        pairs.append(pair)
        inside.append(pair[1])
    return pairs


def nearest_pair(apart, inside):
    """Give the pair that is put to the tree next, when these versions, from the lowest, are in it."""
    found = None
    for i in inside:
        for j in range(len(apart)):
            # Both go up from the lowest, so of equal pairs the one that is kept has the lower numbers.
            if j not in inside and (found is None or apart[i][j] < found[2]):
                found = [i, j, apart[i][j]]
    return found
