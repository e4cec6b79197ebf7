"""Promises 3 and 4 and 'Ways': cost."""

import unittest

from tests.helper import (ONES, REST, SOME_COSTS, TAKEN, all_ways, begins, best, best_told, cost, cost_between,
                          small_tunes, told, tune)

COSTS = (10, 20, 3, 100, 7)
SPLIT = [(61, 2), (REST, 3), (57, 4), (60, 5)]


class Steps(unittest.TestCase):
    def test_each_step_by_itself(self):
        one = [(60, 8)]
        for step, first, second, told_cost in [
            (0, one, [(62, 3)], 2 * 10 + 5 * 3),
            (1, one, [], 8 * 100),
            (2, [], one, 8 * 100),
            (3, one, SPLIT[:2], 10 + 20 + 3 * 3 + 7),
            (4, one, SPLIT[:3], 10 + 20 + 30 + 1 * 3 + 2 * 7),
            (5, one, SPLIT, 10 + 20 + 30 + 6 * 3 + 3 * 7),
            (6, SPLIT[:2], one, 10 + 20 + 3 * 3 + 7),
            (7, SPLIT[:3], one, 10 + 20 + 30 + 1 * 3 + 2 * 7),
            (8, SPLIT, one, 10 + 20 + 30 + 6 * 3 + 3 * 7),
        ]:
            with self.subTest(step=step):
                self.assertEqual(cost_between(COSTS, first, second, step), [told_cost])

    def test_several_in_a_row(self):
        first = [(60, 8), (62, 4), (64, 4), (REST, 2)]
        second = [(60, 4), (60, 5), (63, 7), (50, 1)]
        self.assertEqual(cost_between(COSTS, first, second, 3, 6, 1, 2),
                         [(1 * 3 + 7) + (10 + 10 + 1 * 3 + 7) + 2 * 100 + 1 * 100])
        self.assertEqual(cost_between(COSTS, first, second, 2, 1, 7, 2, 2),
                         [4 * 100 + 8 * 100 + (2 * 10 + 4 * 10 + 20 + 5 * 3 + 2 * 7) + 7 * 100 + 1 * 100])

    def test_each_step_behind_and_ahead_of_another(self):
        for step, (of_first, of_second) in enumerate(TAKEN):
            first = SPLIT[:of_first]
            second = SPLIT[::-1][:of_second]
            alone = cost_between(COSTS, first, second, step)[0]
            with self.subTest(step=step):
                self.assertEqual(cost_between(COSTS, [(9, 1)] + first, [(7, 1)] + second, 0, step), [20 + alone])
                self.assertEqual(cost_between(COSTS, first + [(9, 1)], second + [(7, 1)], step, 0), [alone + 20])

    def test_every_way_of_small_tunes(self):
        tunes = small_tunes(10, 4)
        for costs in SOME_COSTS:
            for first, second in zip(tunes, tunes[3:] + tunes[:3]):
                ways = all_ways(costs, first, second)[:30]
                answered = told(begins(*costs), tune(*first), tune(*second), *[cost(0, 1, *way) for _, way in ways])
                with self.subTest(costs=costs, first=first, second=second):
                    self.assertEqual(answered[3:], [[weighed] for weighed, _ in ways])


class Ways(unittest.TestCase):
    def test_one_that_is_not_the_cheapest(self):
        answered = told(tune((60, 4), (62, 4)), tune((60, 4), (62, 2), (62, 2)), best(0, 1),
                        cost(0, 1, 0, 3), cost(0, 1, 0, 0, 2), cost(0, 1, 1, 1, 2, 2, 2), cost(0, 1, 4, 1))
        self.assertEqual(answered[2:], [best_told(1, 1, [0, 3]), [1], [2 + 2], [16], [4 + 4 + 2 + 4]])

    def test_the_first_that_best_tells_costs_what_best_says(self):
        tunes = small_tunes(25, 24)
        for costs in SOME_COSTS:
            for first, second in [(24, 23), (20, 24), (3, 4), (7, 0), (0, 5)]:
                handed = [begins(*costs), tune(*tunes[first]), tune(*tunes[second])]
                answered = told(*handed, best(0, 1))[-1]
                with self.subTest(costs=costs, first=first, second=second):
                    self.assertEqual(told(*handed, cost(0, 1, *answered[4:]))[-1], answered[:1])

    def test_from_a_tune_to_itself(self):
        answered = told(begins(*COSTS), tune((60, 2), (63, 2)), cost(0, 0, 0, 0), cost(0, 0, 1, 2, 0),
                        cost(0, 0, 1, 0, 2))
        self.assertEqual(answered[2:], [[0], [400], [200 + 30 + 200]])

    def test_from_the_first_to_the_second_alone(self):
        answered = told(tune((60, 2), (60, 2)), tune((60, 4)), cost(0, 1, 6), cost(1, 0, 6), cost(1, 0, 3),
                        cost(0, 1, 3))
        self.assertEqual(answered[2:], [[1], [-3], [1], [-3]])

    def test_no_step_between_two_tunes_without_notes(self):
        self.assertEqual(told(tune(), tune(), cost(0, 1), cost(1, 0), cost(0, 0)), [[0], [1], [0], [0], [0]])

    def test_up_to_48_steps(self):
        notes = [(60, 3)] * 24
        for way in [[1] * 24 + [2] * 24, [2] * 24 + [1] * 24, [1, 2] * 24]:
            with self.subTest(way=way):
                self.assertEqual(cost_between(COSTS, notes, notes, *way), [48 * 300])


class Costs(unittest.TestCase):
    def test_rests_on_both_sides(self):
        rests = [(REST, 1), (REST, 2)]
        self.assertEqual(cost_between(COSTS, rests, rests, 0, 0), [0])
        self.assertEqual(cost_between(COSTS, [(REST, 3)], rests, 3), [7])
        self.assertEqual(cost_between(COSTS, rests, [(REST, 4)], 6), [7 + 3])

    def test_rests_on_one_side(self):
        for key in (0, 1, 127):
            with self.subTest(key=key):
                self.assertEqual(cost_between(COSTS, [(REST, 1)], [(key, 1)], 0), [20])
                self.assertEqual(cost_between(COSTS, [(key, 1)], [(REST, 1)], 0), [20])
                self.assertEqual(cost_between(COSTS, [(REST, 4)], [(key, 1)] * 4, 5), [4 * 20 + 3 * 7])
                self.assertEqual(cost_between(COSTS, [(key, 1)] * 3, [(REST, 3)], 7), [3 * 20 + 2 * 7])

    def test_rests_alone(self):
        self.assertEqual(cost_between(COSTS, [(REST, 4)], [(REST, 5)], 1, 2), [900])

    def test_what_costs_nothing_and_what_costs_most(self):
        first = [(0, 1000)] + SPLIT + [(REST, 1), (5, 1)]
        second = SPLIT + [(127, 1)] + [(6, 1), (6, 1), (REST, 9)]
        way = [5, 8, 1, 3, 2]
        # How often each cost is paid by the way.
        paid = [61 + 57 + 60 + (66 + 70 + 67) + 2, 1 + 1, 986 + 13 + 1, 1 + 9, 3 + 3 + 1]
        for place in range(5):
            for weight in (0, 1, 9999, 10000):
                costs = [0] * 5
                costs[place] = weight
                with self.subTest(place=place, weight=weight):
                    self.assertEqual(cost_between(costs, first, second, *way), [paid[place] * weight])
        self.assertEqual(cost_between([10000] * 5, first, second, *way), [sum(paid) * 10000])

    def test_the_dearest(self):
        longest = [(0, 1000)] * 24
        self.assertEqual(cost_between([10000] * 5, longest, longest, *[1] * 24, *[2] * 24), [48 * 1000 * 10000])

    def test_the_costs_of_the_beginning_are_1(self):
        self.assertEqual(told(tune((60, 1), (REST, 1)), tune((62, 3), (62, 3)), cost(0, 1, 6, 2))[-1],
                         [2 + 1 + 1 + 1 + 3])


class NoWay(unittest.TestCase):
    def test_notes_are_left_over(self):
        notes = [(60, 1)] * 2
        for way in [[0], [1], [2], [1, 1], [2, 2], [3], [6], [1, 2], [0, 1], [0, 2], [1, 1, 2]]:
            with self.subTest(way=way):
                self.assertEqual(cost_between(ONES, notes, notes, *way), [-3])

    def test_a_step_takes_more_notes_than_are_left(self):
        for step, (of_first, of_second) in enumerate(TAKEN):
            with self.subTest(step=step):
                first = [(60, 1)] * of_first
                second = [(60, 1)] * of_second
                self.assertGreaterEqual(cost_between(ONES, first, second, step)[0], 0)
                if of_first:
                    self.assertEqual(cost_between(ONES, first[1:], second, step), [-3])
                    self.assertEqual(cost_between(ONES, first[1:] + [(60, 1)], [(60, 1)] + second, 0, step), [-3])
                if of_second:
                    self.assertEqual(cost_between(ONES, first, second[1:], step), [-3])
                    self.assertEqual(cost_between(ONES, [(60, 1)] + first, second[1:] + [(60, 1)], 0, step), [-3])

    def test_a_step_behind_the_ends(self):
        for step in range(9):
            with self.subTest(step=step):
                self.assertEqual(cost_between(ONES, [(60, 1)], [(60, 1)], 0, step), [-3])
                self.assertEqual(cost_between(ONES, [], [], step), [-3])

    def test_no_step_and_notes(self):
        notes = [(60, 1)]
        for first, second in [(notes, []), ([], notes), (notes, notes)]:
            with self.subTest(first=first, second=second):
                self.assertEqual(cost_between(ONES, first, second), [-3])

    def test_many_steps(self):
        notes = [(60, 1)] * 24
        for way in [[0] * 25, [0] * 60, [1] * 60, [0] * 23, [8] * 60]:
            with self.subTest(way=way):
                self.assertEqual(cost_between(ONES, notes, notes, *way), [-3])

    def test_all_is_as_it_was(self):
        answered = told(begins(*COSTS), tune((60, 1)), tune((61, 1)), cost(0, 1, 0), cost(0, 1, 0, 0),
                        cost(0, 1, 0), best(0, 1), tune())
        self.assertEqual(answered[3:], [[10], [-3], [10], best_told(10, 1, [0]), [2]])


class NoSuchTune(unittest.TestCase):
    def test_i_or_j(self):
        for i, j in [(0, 2), (2, 0), (2, 2), (1, 8), (8, 1), (0, 4294967295), (4294967295, 0)]:
            for way in [[0], [], [1, 2], [8], [0] * 60]:
                with self.subTest(i=i, j=j, way=way):
                    answered = told(tune((60, 1)), tune((62, 1)), cost(0, 1, 0), cost(i, j, *way), cost(0, 1, 0),
                                    tune())
                    self.assertEqual(answered[2:], [[2], [-2], [2], [2]])

    def test_no_tunes(self):
        self.assertEqual(told(cost(0, 0), cost(0, 0, 1), cost(0, 1)), [[-2]] * 3)


if __name__ == "__main__":
    unittest.main()
