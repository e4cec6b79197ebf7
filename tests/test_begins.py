"""Promise 1: begins, and the costs and tunes that there are at the beginning."""

import unittest

from tests.helper import ONES, REST, begins, best, best_between, best_told, told, tune

# For each cost: its place, two tunes that only it keeps apart, the step taken, and how often it is paid.
SHOWN_BY = [
    ("key", 0, [(60, 1)], [(61, 1)], 0),
    ("rest", 1, [(60, 1)], [(REST, 1)], 0),
    ("long", 2, [(60, 1)], [(60, 2)], 0),
    ("gap", 3, [(60, 1)], [], 1),
    ("more", 4, [(60, 2)], [(60, 1), (60, 1)], 3),
]


def with_one(place, cost):
    """Costs of 10000 each, but one."""
    costs = [10000] * 5
    costs[place] = cost
    return costs


class Begins(unittest.TestCase):
    def test_answers_0(self):
        self.assertEqual(told(begins(1, 2, 3, 4, 5)), [[0]])

    def test_each_cost_counts_from_0_to_10000(self):
        for name, place, first, second, step in SHOWN_BY:
            for cost in (0, 1, 7, 9999, 10000):
                with self.subTest(name=name, cost=cost):
                    self.assertEqual(best_between(with_one(place, cost), first, second),
                                     best_told(cost, 1, [step]))

    def test_all_costs_at_both_ends_are_taken(self):
        self.assertEqual(told(begins(0, 0, 0, 0, 0), begins(10000, 10000, 10000, 10000, 10000)), [[0], [0]])

    def test_each_cost_is_refused_above_10000(self):
        for name, place, *_ in SHOWN_BY:
            for cost in (10001, 4294967295):
                with self.subTest(name=name, cost=cost):
                    for others in (0, 1, 10000):
                        costs = [others] * 5
                        costs[place] = cost
                        self.assertEqual(told(begins(*costs)), [[-1]])

    def test_a_refusal_leaves_every_cost_and_the_tunes(self):
        kept = (3, 5, 7, 11, 2)
        for name, place, first, second, step in SHOWN_BY:
            for refused in range(5):
                costs = [9, 9, 9, 9, 9]
                costs[refused] = 10001
                with self.subTest(name=name, refused=refused):
                    answered = told(begins(*kept), tune(*first), tune(*second), best(0, 1),
                                    begins(*costs), best(0, 1), tune((1, 1)))
                    self.assertEqual(answered[4], [-1])
                    self.assertEqual(answered[5], answered[3])
                    self.assertEqual(answered[5], best_told(kept[place], 1, [step]))
                    self.assertEqual(answered[6], [2])

    def test_a_refusal_at_the_beginning_leaves_costs_of_1(self):
        answered = told(begins(0, 0, 0, 0, 10001), tune((60, 5)), tune((62, 5)), best(0, 1))
        self.assertEqual(answered, [[-1], [0], [1], best_told(2, 1, [0])])

    def test_the_tunes_are_gone(self):
        answered = told(tune((60, 1)), tune((61, 1)), begins(1, 1, 1, 1, 1), best(0, 0), best(1, 1), tune((70, 1)))
        self.assertEqual(answered, [[0], [1], [0], [-2], [-2], [0]])

    def test_eight_tunes_are_gone_and_eight_more_may_come(self):
        answered = told(*[tune()] * 8, begins(1, 1, 1, 1, 1), *[tune()] * 9)
        self.assertEqual(answered[9:], [[0], [1], [2], [3], [4], [5], [6], [7], [-5]])

    def test_the_later_costs_hold(self):
        answered = told(begins(5, 5, 5, 5, 5), begins(2, 9, 9, 9, 9), tune((60, 1)), tune((61, 1)), best(0, 1))
        self.assertEqual(answered[-1], best_told(2, 1, [0]))


class Beginning(unittest.TestCase):
    def test_there_are_no_tunes(self):
        self.assertEqual(told(best(0, 0)), [[-2]])

    def test_each_cost_is_1(self):
        for name, place, first, second, step in SHOWN_BY:
            with self.subTest(name=name):
                answered = told(tune(*first), tune(*second), best(0, 1))[-1]
                self.assertEqual(answered, best_told(1, 1, [step]))
                self.assertEqual(answered, best_between(ONES, first, second))


if __name__ == "__main__":
    unittest.main()
