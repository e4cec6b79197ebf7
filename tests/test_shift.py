"""Promises 3 and 5 and 'Moved, a tree': shift."""

import unittest

from tests.helper import (ONES, REST, SOME_COSTS, begins, best, best_told, cost, far, raised, shift, shift_between,
                          shift_by_words, shift_told, small_tunes, told, tune)

MELODY = [(60, 2), (64, 2), (REST, 1), (67, 4), (59, 3)]
# Costs by which a note of both is always the cheapest step.
NOTE_BY_NOTE = (1, 50, 1, 10000, 10000)


class TheSameTuneMoved(unittest.TestCase):
    def test_within_reach(self):
        for by in [0, 1, -1, 2, -2, 12, -12, 23, -23, 24, -24]:
            with self.subTest(by=by):
                self.assertEqual(shift_between(NOTE_BY_NOTE, MELODY, raised(MELODY, by)), shift_told(0, -by))
                self.assertEqual(shift_between(NOTE_BY_NOTE, raised(MELODY, by), MELODY), shift_told(0, by))

    def test_out_of_reach_it_comes_as_near_as_it_can(self):
        for by in [25, 26, 40]:
            with self.subTest(by=by):
                self.assertEqual(shift_between(NOTE_BY_NOTE, MELODY, raised(MELODY, by)),
                                 shift_told(4 * (by - 24), -24))
                self.assertEqual(shift_between(NOTE_BY_NOTE, MELODY, raised(MELODY, -by)),
                                 shift_told(4 * (by - 24), 24))

    def test_to_itself(self):
        self.assertEqual(told(tune(*MELODY), shift(0, 0))[-1], shift_told(0, 0))

    def test_what_else_is_changed_is_paid(self):
        changed = [(63, 2), (67, 2), (REST, 2), (71, 4), (62, 3), (90, 1)]
        self.assertEqual(shift_between((2, 5, 3, 7, 10000), MELODY, changed), shift_told(3 + 2 + 7, -3))

    def test_it_is_the_second_one_that_is_moved(self):
        answered = told(begins(*NOTE_BY_NOTE), tune((60, 1)), tune((67, 1)), shift(0, 1), shift(1, 0))
        self.assertEqual(answered[3:], [shift_told(0, -7), shift_told(0, 7)])


class Order(unittest.TestCase):
    def test_0_is_the_first_when_keys_cost_nothing(self):
        for costs in [(0, 3, 1, 9, 2), (0, 0, 0, 0, 0)]:
            with self.subTest(costs=costs):
                self.assertEqual(shift_between(costs, [(60, 1)], [(80, 3)]), shift_told(2 * costs[2], 0))

    def test_0_is_the_first_for_rests_alone(self):
        self.assertEqual(shift_between((1, 4, 1, 9, 2), [(REST, 2)], [(REST, 5)]), shift_told(3, 0))
        self.assertEqual(shift_between((1, 4, 1, 9, 2), [(60, 2)], [(REST, 2)]), shift_told(4, 0))
        self.assertEqual(shift_between((1, 4, 1, 9, 2), [(REST, 2)], [(60, 2)]), shift_told(4, 0))

    def test_0_is_the_first_without_notes(self):
        self.assertEqual(shift_between(ONES, [], []), shift_told(0, 0))
        self.assertEqual(shift_between(ONES, [(60, 3)], []), shift_told(3, 0))
        self.assertEqual(shift_between(ONES, [], [(60, 3)]), shift_told(3, 0))

    def test_0_is_ahead_of_others_that_are_as_cheap(self):
        # From -1 to 1 all cost 2: what the one note gains the other one loses.
        self.assertEqual(shift_between(NOTE_BY_NOTE, [(60, 1), (62, 1)], [(61, 1), (61, 1)]), shift_told(2, 0))

    def test_of_the_same_size_the_higher_is_the_first(self):
        # One of the two notes falls on the one note, the other one is left out: with 0 neither does.
        costs = (10, 1, 1, 1, 10000)
        for size in range(1, 25):
            for second in [[(60 - size, 1), (60 + size, 1)], [(60 + size, 1), (60 - size, 1)]]:
                with self.subTest(size=size, second=second):
                    self.assertEqual(shift_between(costs, [(60, 1)], second), shift_told(1, size))

    def test_the_smaller_is_the_first_whatever_its_sign(self):
        costs = (10, 1, 1, 1, 10000)
        for near, other in [(1, 2), (1, 24), (2, 3), (11, 12), (23, 24)]:
            for sign in (1, -1):
                for other_sign in (1, -1):
                    with self.subTest(near=near * sign, other=other * other_sign):
                        second = [(60 - other * other_sign, 1), (60 - near * sign, 1)]
                        self.assertEqual(shift_between(costs, [(60, 1)], second), shift_told(1, near * sign))

    def test_a_cheaper_one_is_taken_ahead_of_the_order(self):
        self.assertEqual(shift_between(NOTE_BY_NOTE, [(60, 1)] * 3, [(60, 1)] + [(84, 1)] * 2), shift_told(24, -24))
        self.assertEqual(shift_between(NOTE_BY_NOTE, [(60, 1)] * 3, [(60, 1)] + [(36, 1)] * 2), shift_told(24, 24))


class Keys(unittest.TestCase):
    def test_below_0(self):
        for by in [1, 2, 13, 24]:
            # The note of key 0 comes to -by, so that the two others fall on theirs.
            first = [(0, 1), (1, 1), (50, 1)]
            second = [(0, 1), (1 + by, 1), (50 + by, 1)]
            for rest in (0, 1, 50, 10000):
                with self.subTest(by=by, rest=rest):
                    self.assertEqual(shift_between((1, rest, 1, 10000, 10000), first, second), shift_told(by, -by))

    def test_above_127(self):
        for by in [1, 2, 13, 24]:
            first = [(127, 1), (126, 1), (99, 1)]
            second = [(127, 1), (126 - by, 1), (99 - by, 1)]
            with self.subTest(by=by):
                self.assertEqual(shift_between(NOTE_BY_NOTE, first, second), shift_told(by, by))


class Rests(unittest.TestCase):
    def test_they_stay_rests(self):
        first = [(REST, 1), (60, 1), (62, 1)]
        for by in [-24, -1, 1, 24]:
            with self.subTest(by=by):
                self.assertEqual(shift_between(NOTE_BY_NOTE, first, raised(first, by)), shift_told(0, -by))
                self.assertEqual(shift_between(NOTE_BY_NOTE, [(9, 1)] + first[1:], raised(first, by)),
                                 shift_told(50, -by))
                self.assertEqual(shift_between(NOTE_BY_NOTE, first, [(9, 1)] + raised(first[1:], by)),
                                 shift_told(50, -by))

    def test_they_are_no_notes_of_key_0_or_below(self):
        # A rest taken for a key of -1 would come to fall on the first tune's notes.
        for key in (0, 1, 2, 23):
            with self.subTest(key=key):
                self.assertEqual(shift_between((1, 30, 1, 10000, 10000), [(key, 1)], [(REST, 1)]), shift_told(30, 0))


class Search(unittest.TestCase):
    def test_small_tunes(self):
        tunes = small_tunes(8, 5)
        for costs in SOME_COSTS:
            for k, second in enumerate(tunes):
                first = raised(tunes[k - 3], k * 3 % 7 - 3)
                with self.subTest(costs=costs, first=first, second=second):
                    self.assertEqual(shift_between(costs, first, second), shift_by_words(costs, first, second))

    def test_long_tunes(self):
        tunes = small_tunes(25, 24)
        for costs, by in [(ONES, 5), ((1, 3, 1, 2, 1), -24), ((3, 0, 1, 1, 2), 20)]:
            first = tunes[24]
            second = raised(tunes[23], by)
            with self.subTest(costs=costs, by=by):
                self.assertEqual(shift_between(costs, first, second), shift_by_words(costs, first, second))


class Behind(unittest.TestCase):
    def test_the_tunes_are_as_they_were(self):
        asked = [best(0, 1), best(1, 0), best(1, 1), cost(0, 1, *[0] * 5), far(), shift(0, 1)]
        handed = [begins(*NOTE_BY_NOTE), tune(*MELODY), tune(*raised(MELODY, 7))]
        before = told(*handed, *asked)[3:]
        self.assertEqual(before[0], best_told(28, 1, [0] * 5))
        self.assertEqual(told(*handed, shift(0, 1), shift(1, 0), shift(1, 1), *asked)[6:], before)

    def test_what_it_costs_is_what_best_tells_of_the_tune_moved(self):
        costs = (2, 3, 1, 2, 1)
        second = [(50, 1), (REST, 2), (55, 3), (55, 1)]
        least, _, by = shift_between(costs, MELODY, second)
        answered = told(begins(*costs), tune(*MELODY), tune(*raised(second, by)), best(0, 1))[-1]
        self.assertEqual(answered[0], least)


class NoSuchTune(unittest.TestCase):
    def test_i_or_j(self):
        for i, j in [(0, 2), (2, 0), (2, 2), (1, 8), (8, 1), (0, 4294967295), (4294967295, 0)]:
            with self.subTest(i=i, j=j):
                answered = told(begins(*NOTE_BY_NOTE), tune((60, 1)), tune((62, 1)), shift(i, j), shift(0, 1), tune())
                self.assertEqual(answered[3:], [[-2], shift_told(0, -2), [2]])

    def test_no_tunes(self):
        self.assertEqual(told(shift(0, 0), shift(0, 1), shift(1, 0)), [[-2]] * 3)


if __name__ == "__main__":
    unittest.main()
