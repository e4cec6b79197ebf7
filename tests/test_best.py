"""Promise 3 and 'Ways': best."""

import unittest

from tests.helper import (ONES, REST, SOME_COSTS, TAKEN, best, best_between, best_by_search, best_told,
                          least_by_words, small_tunes, told, tune)


class Steps(unittest.TestCase):
    def test_each_step_as_the_cheapest(self):
        costs = (10, 20, 3, 100, 7)
        quarter = [(60, 5)]
        for step, first, second, least in [
            (0, [(60, 5)], [(62, 9)], 2 * 10 + 4 * 3),
            (1, [(60, 5)], [], 5 * 100),
            (2, [], [(60, 9)], 9 * 100),
            (3, [(60, 11)], quarter * 2, 1 * 3 + 1 * 7),
            (4, [(60, 16)], quarter * 3, 1 * 3 + 2 * 7),
            (5, [(60, 21)], quarter * 4, 1 * 3 + 3 * 7),
            (6, quarter * 2, [(60, 8)], 2 * 3 + 1 * 7),
            (7, quarter * 3, [(60, 13)], 2 * 3 + 2 * 7),
            (8, quarter * 4, [(60, 18)], 2 * 3 + 3 * 7),
        ]:
            with self.subTest(step=step):
                self.assertEqual(best_between(costs, first, second), best_told(least, 1, [step]))

    def test_a_split_pays_for_each_pair(self):
        costs = (1, 50, 1, 1000, 1)
        split = [(61, 2), (57, 2), (REST, 2), (60, 2)]
        self.assertEqual(best_between(costs, [(60, 8)], split), best_told(1 + 3 + 50 + 0 + 3, 1, [5]))
        self.assertEqual(best_between(costs, split, [(60, 8)]), best_told(1 + 3 + 50 + 0 + 3, 1, [8]))
        self.assertEqual(best_between(costs, [(REST, 8)], split), best_told(50 * 3 + 3, 1, [5]))

    def test_five_notes_are_not_taken_by_one_step(self):
        costs = (1, 1, 1, 10, 0)
        self.assertEqual(best_between(costs, [(60, 5)], [(60, 1)] * 5),
                         best_by_search(costs, [(60, 5)], [(60, 1)] * 5))
        self.assertEqual(best_between(costs, [(60, 5)], [(60, 1)] * 5)[0], 1 + 10)

    def test_a_longer_and_a_shorter_note_cost_the_same(self):
        costs = (1, 1, 4, 1000, 1)
        self.assertEqual(best_between(costs, [(60, 3)], [(60, 8)]), best_told(20, 1, [0]))
        self.assertEqual(best_between(costs, [(60, 8)], [(60, 3)]), best_told(20, 1, [0]))

    def test_a_higher_and_a_lower_key_cost_the_same(self):
        costs = (4, 1, 1, 1000, 1)
        self.assertEqual(best_between(costs, [(60, 1)], [(67, 1)]), best_told(28, 1, [0]))
        self.assertEqual(best_between(costs, [(67, 1)], [(60, 1)]), best_told(28, 1, [0]))


class Rests(unittest.TestCase):
    def test_on_both_sides_they_cost_no_key(self):
        self.assertEqual(best_between((9, 9, 2, 100, 9), [(REST, 1)], [(REST, 4)]), best_told(6, 1, [0]))

    def test_on_one_side_they_cost_rest(self):
        costs = (9, 13, 2, 100, 9)
        for key in (0, 1, 127):
            with self.subTest(key=key):
                self.assertEqual(best_between(costs, [(REST, 1)], [(key, 4)]), best_told(13 + 6, 1, [0]))
                self.assertEqual(best_between(costs, [(key, 4)], [(REST, 1)]), best_told(13 + 6, 1, [0]))

    def test_alone_they_cost_gap(self):
        self.assertEqual(best_between((9, 13, 2, 5, 9), [(REST, 4)], []), best_told(20, 1, [1]))
        self.assertEqual(best_between((9, 13, 2, 5, 9), [], [(REST, 4)]), best_told(20, 1, [2]))


class Ways(unittest.TestCase):
    def test_without_notes_on_both_sides_there_is_one_way_without_steps(self):
        self.assertEqual(best_between(ONES, [], []), best_told(0, 1, []))
        self.assertEqual(told(tune(), best(0, 0)), [[0], best_told(0, 1, [])])

    def test_from_and_to_a_tune_without_notes(self):
        notes = [(60, 3), (REST, 4), (0, 1)]
        self.assertEqual(best_between((1, 1, 1, 6, 1), notes, []), best_told(48, 1, [1, 1, 1]))
        self.assertEqual(best_between((1, 1, 1, 6, 1), [], notes), best_told(48, 1, [2, 2, 2]))

    def test_from_a_tune_to_itself(self):
        notes = [(60, 3), (64, 4), (REST, 1), (60, 3)]
        self.assertEqual(told(tune(), tune(*notes), best(1, 1))[-1], best_told(0, 1, [0] * 4))

    def test_from_one_to_another_and_back(self):
        answered = told(tune((60, 4), (62, 4)), tune((60, 4), (62, 2), (62, 2)), best(0, 1), best(1, 0))
        self.assertEqual(answered[2:], [best_told(1, 1, [0, 3]), best_told(1, 1, [0, 6])])

    def test_the_number_of_equal_ways_and_the_first_of_them(self):
        # A step of both and two steps alone cost 2 each: 0, then 1 2, then 2 1.
        self.assertEqual(best_between((2, 1, 1, 1, 1), [(60, 1)], [(61, 1)]), best_told(2, 3, [0]))
        # One note fewer, and it's the same which: 0 1, or 1 0; where lengths and more allow, 6 as well.
        self.assertEqual(best_between((1, 1, 1, 1, 2), [(60, 1)] * 2, [(60, 1)]), best_told(1, 2, [0, 1]))
        self.assertEqual(best_between((1, 1, 0, 1, 1), [(60, 1)] * 2, [(60, 1)]), best_told(1, 3, [0, 1]))
        self.assertEqual(best_between((1, 1, 0, 1, 1), [(60, 1)], [(60, 1)] * 2), best_told(1, 3, [0, 2]))

    def test_a_dearer_first_step_may_begin_the_cheapest_way(self):
        self.assertEqual(best_between(ONES, [(60, 1), (70, 9)], [(70, 9)]), best_told(1, 1, [1, 0]))

    def test_the_first_is_told_by_the_first_difference(self):
        # 0 ahead of 1 at the first step, though the rest of the way has higher numbers then.
        costs = (0, 0, 0, 0, 0)
        self.assertEqual(best_between(costs, [(60, 1)], [(60, 1)] * 3)[3:], [3, 0, 2, 2])
        self.assertEqual(best_between(costs, [(60, 1)] * 3, [(60, 1)])[3:], [3, 0, 1, 1])


class Refusals(unittest.TestCase):
    def test_no_such_tune(self):
        for i, j in [(0, 2), (2, 0), (2, 2), (1, 8), (8, 1), (0, 4294967295), (4294967295, 0)]:
            with self.subTest(i=i, j=j):
                answered = told(tune((60, 1)), tune((62, 1)), best(0, 1), best(i, j), best(0, 1), tune())
                self.assertEqual(answered[2:], [best_told(2, 3, [0]), [-2], best_told(2, 3, [0]), [2]])

    def test_no_tunes(self):
        self.assertEqual(told(best(0, 0), best(1, 0), best(0, 1)), [[-2]] * 3)


class Extremes(unittest.TestCase):
    def ways_in_all(self, first, second):
        """How many ways there are between tunes of so many notes, counted from their beginnings."""
        many = {(0, 0): 1}
        for i in range(first + 1):
            for j in range(second + 1):
                for down, over in TAKEN:
                    if i >= down and j >= over:
                        many[(i, j)] = many.get((i, j), 0) + many[(i - down, j - over)]
        return many[(first, second)]

    def test_when_nothing_costs_all_ways_are_equal(self):
        notes = [(key, key + 1) for key in range(24)]
        for i, j in [(1, 1), (2, 5), (24, 0), (0, 24), (24, 23), (24, 24)]:
            with self.subTest(i=i, j=j):
                way = [0] * min(i, j) + [1] * (i - j) + [2] * (j - i)
                self.assertEqual(best_between((0, 0, 0, 0, 0), notes[:i], notes[24 - j:]),
                                 best_told(0, self.ways_in_all(i, j), way))

    def test_the_highest_costs(self):
        tops = (10000,) * 5
        longest = [(127, 1000)] * 24
        self.assertEqual(best_between(tops, longest, []), best_told(24 * 1000 * 10000, 1, [1] * 24))
        self.assertEqual(best_between(tops, longest, [(0, 1000)] * 24), best_told(24 * 127 * 10000, 1, [0] * 24))
        self.assertEqual(best_between(tops, longest, longest), best_told(0, 1, [0] * 24))

    def test_the_longest_way(self):
        self.assertEqual(best_between((10000, 1, 10000, 0, 10000), [(0, 1)] * 24, [(127, 9)] * 24)[0], 0)
        self.assertEqual(best_between((10000, 1, 10000, 0, 10000), [(0, 1)] * 24, [(127, 9)] * 24)[3:],
                         [48] + [1] * 24 + [2] * 24)


class Search(unittest.TestCase):
    def test_all_pairs_of_small_tunes(self):
        tunes = small_tunes(15, 4)
        for costs in SOME_COSTS:
            for first in tunes:
                for second in tunes:
                    with self.subTest(costs=costs, first=first, second=second):
                        self.assertEqual(best_between(costs, first, second),
                                         best_by_search(costs, first, second))

    def test_some_pairs_of_longer_tunes(self):
        tunes = small_tunes(7, 6)
        for k, first in enumerate(tunes):
            for costs in SOME_COSTS[:6]:
                second = tunes[(k + 6) % 7]
                with self.subTest(costs=costs, first=first, second=second):
                    self.assertEqual(best_between(costs, first, second), best_by_search(costs, first, second))

    def test_what_long_tunes_cost(self):
        tunes = small_tunes(25, 24)
        for costs in SOME_COSTS:
            for first, second in [(24, 24), (24, 23), (13, 24), (24, 2)]:
                with self.subTest(costs=costs, first=first, second=second):
                    self.assertEqual(best_between(costs, tunes[first], tunes[second][::-1])[0],
                                     least_by_words(costs, tunes[first], tunes[second][::-1]))


if __name__ == "__main__":
    unittest.main()
