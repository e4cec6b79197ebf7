"""A family of tunes that are versions of one another."""

from songkin.costs import Costs, costs_of
from songkin.errors import NoRoom, NoSuchTune
from songkin.moves import cheapest_shift
from songkin.notes import tune_of
from songkin.trees import all_apart, tree_from
from songkin.ways import cheapest_ways, way_cost

MOST_TUNES = 8


class Versions:
    """The tunes of one family, by their numbers, and the costs between them."""

    def __init__(self):
        self.costs = Costs(1, 1, 1, 1, 1)
        self.tunes = []

    def begins(self, numbers):
        """Begin anew with these five costs and no tunes."""
        self.costs = costs_of(numbers)
        self.tunes = []

    def tune(self, numbers):
        """Put the tune that the numbers tell behind the others, and give its number."""
        added = tune_of(numbers)
        if len(self.tunes) >= MOST_TUNES:
            raise NoRoom()
        self.tunes.append(added)
        return len(self.tunes) - 1

    def drop(self, k):
        """Take tune k away, so that those behind it move up."""
        self.tune_at(k)
        self.tunes.pop(k)

    def best(self, i, j):
        """Give the cheapest ways from tune i to tune j."""
        return cheapest_ways(self.costs, self.tune_at(i), self.tune_at(j))

    def cost(self, i, j, steps):
        """Give what the steps cost as a way from tune i to tune j."""
        return way_cost(self.costs, self.tune_at(i), self.tune_at(j), steps)

    def shift(self, i, j):
        """Give the move by which tune j is cheapest to come to from tune i."""
        return cheapest_shift(self.costs, self.tune_at(i), self.tune_at(j))

    def far(self):
        """Give for each tune how far it is from each."""
        return all_apart(self.costs, self.tunes)

    def tree(self, root):
        """Give the pairs of the tree from this tune in the order in which they come."""
        self.tune_at(root)
        return tree_from(all_apart(self.costs, self.tunes), root)

    def tune_at(self, k):
        """Give tune k."""
        if k >= len(self.tunes):
            raise NoSuchTune()
        return self.tunes[k]
