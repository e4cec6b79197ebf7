"""The interface: calls handed in as one list, and what is given back."""

import time
import unittest

from songkin.family import answers
from tests.helper import REST, begins, best, cost, drop, far, shift, small_tunes, told, tree, tune

CALLS = [
    begins(1, 2, 1, 3, 1),
    tune((60, 4), (62, 4)),
    tune((60, 4), (REST, 2), (62, 2)),
    tune((128, 1)),
    best(0, 1),
    best(0, 2),
    tune(),
    best(2, 2),
    drop(1),
    drop(2),
    best(1, 0),
    cost(1, 0, 2, 2),
    cost(0, 0, 1, 2, 0),
    cost(1, 0, 2),
    cost(1, 2, 2),
    shift(0, 0),
    shift(2, 0),
    tune((65, 4), (67, 5)),
    shift(0, 2),
    far(),
    tree(1),
    tree(3),
    begins(10001, 0, 0, 0, 0),
    begins(1, 1, 1, 1, 1),
    best(0, 0),
    cost(0, 0),
    shift(0, 0),
    tree(0),
    far(),
    tune(),
    far(),
    tree(0),
]
ANSWERED = [
    [1, 0],
    [1, 0],
    [1, 1],
    [1, -1],
    [6, 3, 1, 1, 2, 0, 3],
    [1, -2],
    [1, 2],
    [4, 0, 1, 1, 0],
    [1, 0],
    [1, -2],
    [6, 24, 1, 1, 2, 2, 2],
    [1, 24],
    [1, 24],
    [1, -3],
    [1, -2],
    [3, 0, 1, 0],
    [1, -2],
    [1, 2],
    [3, 1, 1, -5],
    [13, 3, 3, 0, 24, 11, 3, 24, 0, 27, 3, 11, 27, 0],
    [9, 2, 3, 1, 0, 24, 3, 0, 2, 11],
    [1, -2],
    [1, -1],
    [1, 0],
    [1, -2],
    [1, -2],
    [1, -2],
    [1, -2],
    [1, 0],
    [1, 0],
    [3, 1, 1, 0],
    [1, 0],
]


class Fixed(list):
    """A list that can't be changed."""

    def refuse(self, *handed, **named):
        raise AssertionError("what was handed in was to be changed")

    append = extend = insert = pop = remove = clear = reverse = sort = refuse
    __setitem__ = __delitem__ = __iadd__ = __imul__ = refuse


def joined(lists):
    return [number for numbers in lists for number in numbers]


class WholeList(unittest.TestCase):
    def test_the_answers_come_call_by_call(self):
        self.assertEqual(answers(joined(CALLS)), joined(ANSWERED))

    def test_each_beginning_of_the_list_is_answered_alike(self):
        for many in range(1, len(CALLS) + 1):
            with self.subTest(many=many):
                self.assertEqual(answers(joined(CALLS[:many])), joined(ANSWERED[:many]))

    def test_the_same_list_has_the_same_answers_again(self):
        calls = joined(CALLS)
        self.assertEqual(answers(calls), answers(calls))
        self.assertEqual(answers(calls), joined(ANSWERED))

    def test_nothing_is_kept_from_one_list_to_the_next(self):
        answers(joined([begins(9, 9, 9, 9, 9), tune((60, 1)), tune((61, 1))]))
        self.assertEqual(answers(best(0, 1)), [1, -2])
        self.assertEqual(answers(joined([tune((60, 2)), tune(), best(0, 1)])), [1, 0, 1, 1, 5, 2, 1, 1, 1, 1])

    def test_what_is_handed_in_stays_as_it_was(self):
        calls = joined(CALLS)
        before = list(calls)
        answers(calls)
        self.assertEqual(calls, before)

    def test_what_is_given_back_is_a_new_list_of_plain_whole_numbers(self):
        calls = joined(CALLS)
        given = answers(calls)
        self.assertIs(type(given), list)
        self.assertEqual({type(number) for number in given}, {int})
        given.append(7)
        self.assertEqual(answers(calls), joined(ANSWERED))

    def test_what_is_handed_in_is_not_changed_for_a_while_either(self):
        self.assertEqual(answers(Fixed(joined(CALLS))), joined(ANSWERED))


class Refusals(unittest.TestCase):
    REFUSED = [begins(1, 1, 10001, 1, 1), tune((60, 0)), tune(*[(60, 1)] * 25), drop(3), best(0, 3), best(3, 0),
               cost(0, 3, 0), cost(3, 1), cost(0, 1), cost(0, 1, 8), cost(0, 1, 0, 0, 0, 0), shift(0, 3), shift(3, 0),
               tree(3)]

    def test_among_others_they_leave_all_as_it_was(self):
        costs = begins(2, 3, 1, 4, 5)
        calls = [costs, tune((60, 4), (62, 4)), tune((60, 4), (REST, 2), (62, 2)), tune((58, 3)),
                 far(), tree(1), best(0, 1), shift(1, 0), cost(0, 1, 0, 3), far()]
        answered = told(*calls)
        for refused in self.REFUSED:
            among = []
            for place, call in enumerate(calls):
                among.append(call)
                if place >= 3:
                    among.append(refused)
            with self.subTest(refused=refused):
                self.assertEqual([answer for answer in told(*among) if len(answer) > 1 or answer[0] >= 0], answered)
                self.assertEqual(len([answer for answer in told(*among) if answer in ([-1], [-2], [-3])]), 7)

    def test_all_in_one_list(self):
        handed = [begins(2, 3, 1, 4, 5), tune((60, 4), (62, 4)), tune((61, 4)), tune((58, 3)), far(), tree(0)]
        answered = told(*handed, *self.REFUSED, far(), tree(0))
        self.assertEqual(answered[6:-2], [[-1]] * 3 + [[-2]] * 5 + [[-3]] * 3 + [[-2]] * 3)
        self.assertEqual(answered[-2:], answered[4:6])


class FortyCalls(unittest.TestCase):
    # Far more than it takes, and far less than if each step of each way were weighed afresh on a slow machine.
    SECONDS = 30

    def tunes(self):
        notes = small_tunes(25, 24)[24]
        return [tune(*[((key + 5 * k) % 128 if key != REST else key, length + k) for key, length in notes])
                for k in range(8)]

    def answered_in_time(self, calls):
        self.assertEqual(len(calls), 40)
        handed = joined(calls)
        begun = time.process_time()
        given = answers(handed)
        self.assertLess(time.process_time() - begun, self.SECONDS)
        self.assertEqual(handed, joined(calls))
        by_call = told(*calls)
        self.assertEqual(joined([len(answer)] + answer for answer in by_call), given)
        return by_call

    def test_all_eight_in_one_list(self):
        calls = [begins(3, 5, 2, 4, 6)] + self.tunes()
        calls += [best(0, 7), far(), tree(7), cost(0, 1, *[0] * 24), cost(0, 1, *[0] * 25), shift(6, 1), tree(8)]
        calls += [drop(2), far(), shift(7, 0), tune(), tune(), far(), tree(7), best(7, 3), cost(7, 3, *[2] * 24)]
        calls += [begins(0, 0, 0, 10001, 0), far()] + [shift(k, 6 - k) for k in range(7)] + [tree(k) for k in range(6)]
        answered = self.answered_in_time(calls)
        self.assertEqual([len(answer) for answer in answered[:9]], [1] * 9)
        self.assertEqual([answered[k] for k in (13, 15, 16, 18, 19, 20, 25)],
                         [[-3], [-2], [0], [-2], [7], [-5], [-1]])
        self.assertEqual([len(answer) for answer in answered if len(answer) > 40], [73, 57, 73, 73])
        self.assertEqual(answered[26], answered[21])
        self.assertEqual(answered[24], answered[23][:1])

    def test_each_of_the_slow_calls_again_and_again(self):
        for asked in [best(0, 7), far(), tree(3), shift(5, 2)]:
            with self.subTest(asked=asked):
                answered = self.answered_in_time(self.tunes() + [asked] * 32)
                self.assertEqual(answered[8:], answered[8:9] * 32)

    def test_the_answers_are_those_of_shorter_lists(self):
        handed = [begins(3, 5, 2, 4, 6)] + self.tunes()
        asked = [best(0, 7), far(), tree(3), shift(5, 2), cost(2, 2, *[1, 2] * 24), best(4, 4)]
        whole = told(*handed, *asked)
        for place, call in enumerate(asked):
            with self.subTest(call=call):
                self.assertEqual(told(*handed, call)[-1], whole[len(handed) + place])


if __name__ == "__main__":
    unittest.main()
