"""Promises 2 and 3: tune and drop."""

import unittest

from tests.helper import REST, begins, best, best_told, drop, told, tune

# One note's length for each of eight tunes, so that it tells which is which.
LENGTHS = [1, 2, 4, 8, 16, 32, 64, 128]


class Tune(unittest.TestCase):
    def test_answers_its_number(self):
        self.assertEqual(told(tune((60, 1)), tune((60, 1)), tune((64, 2), (REST, 1))), [[0], [1], [2]])

    def test_up_to_24_notes_are_taken(self):
        for many in (0, 1, 23, 24):
            with self.subTest(many=many):
                self.assertEqual(told(tune(*[(60, 1)] * many), tune(), best(0, 1)),
                                 [[0], [1], best_told(many, 1, [1] * many)])

    def test_more_than_24_notes_are_refused(self):
        for many in (25, 26, 60):
            with self.subTest(many=many):
                self.assertEqual(told(tune(*[(60, 1)] * many), best(0, 0), tune()), [[-1], [-2], [0]])

    def test_keys(self):
        for key, answer in [(REST, 0), (0, 0), (1, 0), (126, 0), (127, 0), (128, -1), (4294967295, -1)]:
            with self.subTest(key=key):
                self.assertEqual(told(tune((key, 1))), [[answer]])

    def test_lengths(self):
        for length, answer in [(0, -1), (1, 0), (2, 0), (999, 0), (1000, 0), (1001, -1), (4294967295, -1)]:
            for key in (60, REST):
                with self.subTest(length=length, key=key):
                    self.assertEqual(told(tune((key, length))), [[answer]])

    def test_one_bad_note_anywhere_is_refused(self):
        good = [(60, 1), (REST, 2), (127, 1000)]
        for bad in [(128, 1), (60, 0), (60, 1001), (REST, 0), (REST, 1001)]:
            for place in range(4):
                with self.subTest(bad=bad, place=place):
                    self.assertEqual(told(tune(*good[:place], bad, *good[place:])), [[-1]])

    def test_a_rest_is_kept_as_a_rest(self):
        answered = told(begins(1, 50, 1, 1000, 1), tune((REST, 1)), tune((0, 1)), tune((1, 1)),
                        best(0, 0), best(0, 1), best(0, 2), best(1, 2))
        self.assertEqual(answered[4:], [best_told(0, 1, [0]), best_told(50, 1, [0]),
                                        best_told(50, 1, [0]), best_told(1, 1, [0])])

    def test_keys_and_lengths_are_kept(self):
        answered = told(begins(10, 1, 1, 10000, 1), tune((0, 1)), tune((127, 1000)), best(0, 1), best(1, 0))
        self.assertEqual(answered[3:], [best_told(1270 + 999, 1, [0])] * 2)

    def test_a_refused_tune_leaves_all_as_it_was(self):
        answered = told(begins(1, 1, 1, 3, 1), tune((60, 7)), tune(), tune((128, 1)), best(0, 1), tune((60, 1)))
        self.assertEqual(answered[3:], [[-1], best_told(21, 1, [1]), [2]])

    def test_the_ninth_is_refused_and_all_is_as_it_was(self):
        calls = [tune((60, length)) for length in LENGTHS[:7]] + [tune()]
        calls += [tune((60, 999)), tune()] + [best(k, 7) for k in range(7)] + [best(7, 7), best(8, 7)]
        answered = told(*calls)
        self.assertEqual(answered[:8], [[k] for k in range(8)])
        self.assertEqual(answered[8:10], [[-5], [-5]])
        self.assertEqual(answered[10:17], [best_told(length, 1, [1]) for length in LENGTHS[:7]])
        self.assertEqual(answered[17:], [best_told(0, 1, []), [-2]])

    def test_a_bad_tune_is_told_ahead_of_no_room(self):
        for bad in [[(128, 1)], [(60, 0)], [(60, 1001)], [(REST, 0)], [(60, 1)] * 25]:
            with self.subTest(bad=bad):
                self.assertEqual(told(*[tune()] * 8, tune(*bad), tune())[8:], [[-1], [-5]])

    def test_there_is_room_again_after_a_drop(self):
        self.assertEqual(told(*[tune()] * 8, tune(), drop(3), tune(), tune())[8:], [[-5], [0], [7], [-5]])


class Drop(unittest.TestCase):
    def left_after(self, many, k):
        """The lengths of the tunes that are left of so many when tune k is dropped."""
        # A tune without notes, put behind them, is as far from each as that one is long.
        calls = [tune((60, length)) for length in LENGTHS[:many]] + [drop(k), tune()]
        answered = told(*calls, *[best(number, many - 1) for number in range(many - 1)])
        self.assertEqual(answered[many:many + 2], [[0], [many - 1]])
        return [answer[0] for answer in answered[many + 2:]]

    def test_the_one_is_gone_and_those_behind_it_move_up(self):
        for many in (1, 2, 3, 7):
            for k in range(many):
                with self.subTest(many=many, k=k):
                    self.assertEqual(self.left_after(many, k), LENGTHS[:k] + LENGTHS[k + 1:many])

    def test_of_eight(self):
        for k in (0, 4, 7):
            with self.subTest(k=k):
                calls = [tune((60, length)) for length in LENGTHS]
                calls += [drop(k), best(6, 6), best(7, 7), tune((60, 1)), best(7, 7), tune()]
                self.assertEqual(told(*calls)[8:],
                                 [[0], best_told(0, 1, [0]), [-2], [7], best_told(0, 1, [0]), [-5]])

    def test_one_after_another(self):
        answered = told(tune((60, 1)), tune((60, 2)), drop(0), drop(0), drop(0), tune())
        self.assertEqual(answered, [[0], [1], [0], [0], [-2], [0]])

    def test_no_such_tune(self):
        self.assertEqual(told(drop(0), drop(4294967295)), [[-2], [-2]])
        for k in (2, 3, 7, 8, 4294967295):
            with self.subTest(k=k):
                answered = told(tune((60, 3)), tune(), best(0, 1), drop(k), best(0, 1), tune())
                self.assertEqual(answered[3:], [[-2], answered[2], [2]])

    def test_the_costs_stay(self):
        answered = told(begins(1, 1, 1, 9, 1), tune((60, 2)), tune((1, 1)), tune(), drop(1), best(0, 1))
        self.assertEqual(answered[4:], [[0], best_told(18, 1, [1])])


if __name__ == "__main__":
    unittest.main()
