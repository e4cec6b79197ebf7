"""The interface: calls handed in as one list, and what is given back."""

import unittest

from songkin.family import answers
from tests.helper import REST, begins, best, drop, tune

CALLS = [
    begins(1, 2, 1, 3, 1),
    tune((60, 4), (62, 4)),
    tune((60, 4), (REST, 2), (62, 2)),
    tune((128, 1)),
    best(0, 1),
    best(0, 2),
    tune(),
    best(2, 2),
    drop(1),
    drop(2),
    best(1, 0),
    begins(10001, 0, 0, 0, 0),
    begins(1, 1, 1, 1, 1),
    best(0, 0),
]
ANSWERED = [
    [1, 0],
    [1, 0],
    [1, 1],
    [1, -1],
    [6, 3, 1, 1, 2, 0, 3],
    [1, -2],
    [1, 2],
    [4, 0, 1, 1, 0],
    [1, 0],
    [1, -2],
    [6, 24, 1, 1, 2, 2, 2],
    [1, -1],
    [1, 0],
    [1, -2],
]


def joined(lists):
    return [number for numbers in lists for number in numbers]


class WholeList(unittest.TestCase):
    def test_the_answers_come_call_by_call(self):
        self.assertEqual(answers(joined(CALLS)), joined(ANSWERED))

    def test_each_beginning_of_the_list_is_answered_alike(self):
        for many in range(1, len(CALLS) + 1):
            with self.subTest(many=many):
                self.assertEqual(answers(joined(CALLS[:many])), joined(ANSWERED[:many]))

    def test_the_same_list_has_the_same_answers_again(self):
        calls = joined(CALLS)
        self.assertEqual(answers(calls), answers(calls))
        self.assertEqual(answers(calls), joined(ANSWERED))

    def test_nothing_is_kept_from_one_list_to_the_next(self):
        answers(joined([begins(9, 9, 9, 9, 9), tune((60, 1)), tune((61, 1))]))
        self.assertEqual(answers(best(0, 1)), [1, -2])
        self.assertEqual(answers(joined([tune((60, 2)), tune(), best(0, 1)])), [1, 0, 1, 1, 5, 2, 1, 1, 1, 1])

    def test_what_is_handed_in_stays_as_it_was(self):
        calls = joined(CALLS)
        before = list(calls)
        answers(calls)
        self.assertEqual(calls, before)

    def test_what_is_given_back_is_a_new_list_of_plain_whole_numbers(self):
        calls = joined(CALLS)
        given = answers(calls)
        self.assertIs(type(given), list)
        self.assertEqual({type(number) for number in given}, {int})
        given.append(7)
        self.assertEqual(answers(calls), joined(ANSWERED))

    def test_forty_calls(self):
        calls = [tune(*[(60 + k, k + 1)] * 24) for k in range(8)] + [best(k % 8, k * 3 % 8) for k in range(32)]
        given = answers(joined(calls))
        at = 0
        many = 0
        while at < len(given):
            at += 1 + given[at]
            many += 1
        self.assertEqual((at, many), (len(given), 40))


if __name__ == "__main__":
    unittest.main()
