"""Promises 3 and 6 and 'Moved, a tree': tree."""

import itertools
import unittest

from tests.helper import REST, SOME_COSTS, begins, best, drop, far, rows_told, small_tunes, told, tree, tune

# With tunes of one note each, as far apart as their keys are.
BY_KEYS = (1, 50, 1, 10000, 10000)


def tree_of_keys(root, *keys):
    """What tree answers of tunes that are as far apart as these keys."""
    return told(begins(*BY_KEYS), *[tune((key, 1)) for key in keys], tree(root))[-1]


def tree_by_words(apart, root):
    """What tree is to answer when the versions are so far apart, as the document's words say it."""
    rows = []
    inside = {root}
    while len(inside) < len(apart):
        nearest, one, other = min((apart[i][j], i, j) for i in inside for j in range(len(apart)) if j not in inside)
        rows.append([one, other, nearest])
        inside.add(other)
    return rows_told(rows)


def lightest(apart):
    """What the lightest of all trees weighs, each of them tried."""
    many = len(apart)
    weights = []
    for edges in itertools.combinations(itertools.combinations(range(many), 2), many - 1):
        parts = list(range(many))
        for i, j in edges:
            parts = [parts[i] if part == parts[j] else part for part in parts]
        if len(set(parts)) == 1:
            weights.append(sum(apart[i][j] for i, j in edges))
    return min(weights)


def as_rows(answered):
    """The lists that far or tree answers."""
    rows = []
    at = 1
    while at < len(answered):
        rows.append(answered[at + 1:at + 1 + answered[at]])
        at += 1 + answered[at]
    assert len(rows) == answered[0], "not as many lists as it says"
    return rows


class Tree(unittest.TestCase):
    def test_from_each_root(self):
        keys = (60, 70, 63, 75, 61)
        for root, rows in [
            (0, [[0, 4, 1], [4, 2, 2], [2, 1, 7], [1, 3, 5]]),
            (1, [[1, 3, 5], [1, 2, 7], [2, 4, 2], [4, 0, 1]]),
            (2, [[2, 4, 2], [4, 0, 1], [2, 1, 7], [1, 3, 5]]),
            (3, [[3, 1, 5], [1, 2, 7], [2, 4, 2], [4, 0, 1]]),
            (4, [[4, 0, 1], [4, 2, 2], [2, 1, 7], [1, 3, 5]]),
        ]:
            with self.subTest(root=root):
                self.assertEqual(tree_of_keys(root, *keys), rows_told(rows))

    def test_one_tune(self):
        self.assertEqual(told(tune((60, 1)), tree(0))[-1], [0])
        self.assertEqual(told(tune(), tree(0))[-1], [0])

    def test_two_tunes(self):
        self.assertEqual(tree_of_keys(0, 60, 67), rows_told([[0, 1, 7]]))
        self.assertEqual(tree_of_keys(1, 60, 67), rows_told([[1, 0, 7]]))

    def test_eight_tunes(self):
        keys = (60, 80, 61, 83, 65, 97, 127, 58)
        self.assertEqual(tree_of_keys(4, *keys), rows_told([[4, 2, 4], [2, 0, 1], [0, 7, 2], [4, 1, 15], [1, 3, 3],
                                                           [3, 5, 14], [5, 6, 30]]))

    def test_a_rest_and_a_tune_without_notes(self):
        answered = told(begins(1, 3, 1, 9, 1), tune((60, 1)), tune((REST, 1)), tune(), tune((62, 1)), tree(2))
        self.assertEqual(answered[-1], rows_told([[2, 0, 9], [0, 3, 2], [0, 1, 3]]))


class Equals(unittest.TestCase):
    def test_all_alike(self):
        for root in range(8):
            rows = [[root, 0, 0]] if root else []
            rows += [[0, k, 0] for k in range(1, 8) if k != root]
            with self.subTest(root=root):
                self.assertEqual(tree_of_keys(root, *[60] * 8), rows_told(rows))

    def test_nothing_costs(self):
        handed = [begins(0, 0, 0, 0, 0)] + [tune(*[(60 + k, 1)] * k) for k in range(4)]
        self.assertEqual(told(*handed, tree(2))[-1], rows_told([[2, 0, 0], [0, 1, 0], [0, 3, 0]]))

    def test_the_lower_number_in_the_tree_decides_first(self):
        # Then 1, 2 and 3, 0 are 3 apart: 1 is lower than 3, though it came later and 2 is higher than 0.
        self.assertEqual(tree_of_keys(3, 57, 61, 64, 60), rows_told([[3, 1, 1], [1, 2, 3], [3, 0, 3]]))

    def test_the_lower_number_of_the_other_one_decides_then(self):
        self.assertEqual(tree_of_keys(1, 65, 60, 55), rows_told([[1, 0, 5], [1, 2, 5]]))
        self.assertEqual(tree_of_keys(2, 55, 65, 60), rows_told([[2, 0, 5], [2, 1, 5]]))

    def test_one_version_that_is_as_near_to_two(self):
        self.assertEqual(tree_of_keys(2, 62, 64, 60), rows_told([[2, 0, 2], [0, 1, 2]]))
        self.assertEqual(tree_of_keys(1, 60, 62, 61), rows_told([[1, 2, 1], [2, 0, 1]]))

    def test_the_less_apart_goes_ahead_of_the_lower_number(self):
        self.assertEqual(tree_of_keys(0, 60, 70, 90, 91, 61), rows_told([[0, 4, 1], [4, 1, 9], [1, 2, 20],
                                                                        [2, 3, 1]]))


class Search(unittest.TestCase):
    def test_it_is_as_the_words_say_of_what_far_tells(self):
        tunes = small_tunes(25, 24)
        for many in (1, 2, 5, 8):
            for costs in SOME_COSTS:
                handed = [begins(*costs)] + [tune(*tunes[3 * k + 2]) for k in range(many)]
                answered = told(*handed, far(), *[tree(root) for root in range(many)])[many + 1:]
                apart = as_rows(answered[0])
                for root in range(many):
                    with self.subTest(many=many, costs=costs, root=root):
                        self.assertEqual(answered[1 + root], tree_by_words(apart, root))

    def test_equal_ones_are_many_among_small_tunes(self):
        tunes = small_tunes(16, 3)
        for first in (0, 8):
            for costs in SOME_COSTS:
                handed = [begins(*costs)] + [tune(*notes) for notes in tunes[first:first + 8]]
                answered = told(*handed, far(), *[tree(root) for root in range(8)])[9:]
                for root in range(8):
                    with self.subTest(first=first, costs=costs, root=root):
                        self.assertEqual(answered[1 + root], tree_by_words(as_rows(answered[0]), root))

    def test_no_tree_weighs_less(self):
        tunes = small_tunes(12, 5)
        for costs in SOME_COSTS:
            handed = [begins(*costs)] + [tune(*notes) for notes in tunes[3:9]]
            answered = told(*handed, far(), *[tree(root) for root in range(6)])[7:]
            least = lightest(as_rows(answered[0]))
            for root in range(6):
                with self.subTest(costs=costs, root=root):
                    self.assertEqual(sum(row[2] for row in as_rows(answered[1 + root])), least)


class Behind(unittest.TestCase):
    def test_all_stays_as_it_was(self):
        handed = [begins(*BY_KEYS), tune((60, 1)), tune((61, 1)), tune((65, 1))]
        asked = [far(), tree(1), best(0, 2), tune()]
        self.assertEqual(told(*handed, tree(2), tree(0), *asked)[6:], told(*handed, *asked)[4:])

    def test_the_tunes_of_then(self):
        answered = told(begins(*BY_KEYS), tune((60, 1)), tune((70, 1)), tune((61, 1)), tree(1), drop(0), tree(0),
                        tune((72, 1)), tree(0))
        self.assertEqual(answered[4:], [rows_told([[1, 2, 9], [2, 0, 1]]), [0], rows_told([[0, 1, 9]]), [2],
                                        rows_told([[0, 2, 2], [0, 1, 9]])])


class NoSuchTune(unittest.TestCase):
    def test_the_root(self):
        for root in (2, 3, 7, 8, 4294967295):
            with self.subTest(root=root):
                answered = told(begins(*BY_KEYS), tune((60, 1)), tune((62, 1)), tree(root), tree(0), tune())
                self.assertEqual(answered[3:], [[-2], rows_told([[0, 1, 2]]), [2]])

    def test_no_tunes(self):
        self.assertEqual(told(tree(0), tree(1), tree(4294967295)), [[-2]] * 3)

    def test_of_eight(self):
        self.assertEqual(told(*[tune()] * 8, tree(8))[-1], [-2])


if __name__ == "__main__":
    unittest.main()
