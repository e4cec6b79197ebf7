"""Promise 6: far."""

import unittest

from tests.helper import (ONES, REST, SOME_COSTS, begins, best, drop, far, least_by_words, rows_told, small_tunes,
                          told, tune)


class Far(unittest.TestCase):
    def test_no_tunes(self):
        self.assertEqual(told(far()), [[0]])
        self.assertEqual(told(tune(), begins(*ONES), far())[-1], [0])
        self.assertEqual(told(tune(), drop(0), far())[-1], [0])

    def test_one_tune(self):
        self.assertEqual(told(tune((60, 3), (REST, 1)), far())[-1], [1, 1, 0])
        self.assertEqual(told(tune(), far())[-1], [1, 1, 0])

    def test_several(self):
        answered = told(begins(2, 5, 1, 50, 3), tune((60, 4)), tune((61, 4)), tune((60, 2), (63, 2)), tune((REST, 3)),
                        far())
        self.assertEqual(answered[-1], [4,
                                        4, 0, 2, 9, 6,
                                        4, 2, 0, 9, 6,
                                        4, 9, 9, 0, 14,
                                        4, 6, 6, 14, 0])

    def test_alike_ones(self):
        self.assertEqual(told(*[tune((60, 1), (62, 1))] * 3, far())[-1], rows_told([[0] * 3] * 3))

    def test_each_pair_is_as_far_as_best_says(self):
        tunes = small_tunes(25, 24)
        for many in (2, 3, 5, 8):
            for costs in SOME_COSTS:
                chosen = [tunes[3 * k + 2] for k in range(many)]
                handed = [begins(*costs)] + [tune(*notes) for notes in chosen]
                rows = []
                for i in range(many):
                    answered = told(*handed, *[best(i, j) for j in range(many)])
                    rows.append([answer[0] for answer in answered[many + 1:]])
                    self.assertEqual(rows[i][i], 0)
                with self.subTest(many=many, costs=costs):
                    self.assertEqual(told(*handed, far())[-1], rows_told(rows))

    def test_eight_by_the_words(self):
        tunes = small_tunes(25, 24)[24:12:-2] + [[], [(REST, 1000)]]
        costs = (3, 2, 1, 4, 5)
        rows = [[least_by_words(costs, first, second) for second in tunes] for first in tunes]
        self.assertEqual(told(begins(*costs), *[tune(*notes) for notes in tunes], far())[-1], rows_told(rows))

    def test_the_highest_costs(self):
        longest = [(127, 1000)] * 24
        most = 24 * 1000 * 10000
        answered = told(begins(*[10000] * 5), tune(*longest), tune(), tune(*[(0, 1000)] * 24), far())[-1]
        keys = 24 * 127 * 10000
        self.assertEqual(answered, rows_told([[0, most, keys], [most, 0, most], [keys, most, 0]]))

    def test_the_costs_and_tunes_of_then(self):
        answered = told(tune((60, 1)), tune((64, 1)), tune((67, 1)), far(), drop(1), far(), tune((61, 1)), far(),
                        begins(5, 5, 5, 5, 5), far(), tune((60, 1)), tune((61, 1)), far())
        self.assertEqual(answered[3], rows_told([[0, 2, 2], [2, 0, 2], [2, 2, 0]]))
        self.assertEqual(answered[5], rows_told([[0, 2], [2, 0]]))
        self.assertEqual(answered[7], rows_told([[0, 2, 1], [2, 0, 2], [1, 2, 0]]))
        self.assertEqual(answered[9], [0])
        self.assertEqual(answered[12], rows_told([[0, 5], [5, 0]]))

    def test_all_stays_as_it_was(self):
        answered = told(tune((60, 1)), tune((61, 1)), best(0, 1), far(), best(0, 1), far(), tune())
        self.assertEqual(answered[4], answered[2])
        self.assertEqual(answered[5], answered[3])
        self.assertEqual(answered[6], [2])


if __name__ == "__main__":
    unittest.main()
