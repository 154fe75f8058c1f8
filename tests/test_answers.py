"""The interface: answers(calls)."""

import unittest

from digitseq.places import answers
from tests.calls import begin, both, count, differ, digit_counter, digit_sum, find
from tests.calls import kernel, permuting, put, states, telling, term


class Fixed(list):
    """A list that is not to be changed, not for a while either."""

    def change(self, *given, **named):
        raise AssertionError("the list that was handed in is changed")

    append = extend = insert = remove = pop = clear = sort = reverse = change
    __setitem__ = __delitem__ = __iadd__ = __imul__ = change


class Answers(unittest.TestCase):
    def test_no_calls(self):
        self.assertEqual(answers([]), [])

    def test_how_calls_and_answers_stand(self):
        calls = [0,
                 1, 3, 2, 2, 6, 0, 1, 40, 1, 0, 41,
                 2, 3, 18446744073709551615,
                 3, 3,
                 4, 3,
                 2, 0, 5,
                 1, 3, 2, 0, 0,
                 3, 3,
                 0,
                 4, 3]
        self.assertEqual(answers(calls), [1, 0, 1, 0, 1, 40, 1, 2, 1, 2, 1, -1, 1, -1, 1, 2, 1, 0, 1, -1])

    def test_how_the_later_calls_and_their_answers_stand(self):
        calls = [0,
                 1, 0, 2, 2, 6, 0, 1, 0, 1, 0, 1,
                 5, 0, 1, 8,
                 8, 3, 0, 0, 4,
                 6, 0, 3, 5,
                 1, 2, 2, 1, 3, 0, 0, 0,
                 6, 2, 3, 5,
                 6, 2, 3, 0,
                 7, 3, 4200, 3, 0, 0, 1,
                 7, 3, 2, 3, 0, 0, 1,
                 7, 3, 4201, 2, 1, 1,
                 7, 3, 1, 3, 0, 0, 0,
                 7, 3, 7, 0,
                 5, 3, 256, 8,
                 8, 4, 0, 0, 4,
                 3, 3]
        self.assertEqual(answers(calls), [1, 0,
                                          1, 0,
                                          1, 4,
                                          1, 0,
                                          1, -2,
                                          1, 0,
                                          2, 1, 1,
                                          1, 1,
                                          4, 3, 1, 0, 1,
                                          3, 3, 1, 0,
                                          1, 1,
                                          1, -2,
                                          1, -1,
                                          1, -1,
                                          1, -1,
                                          1, 2])

    def test_a_refused_row_is_passed_over(self):
        table = [0, 1, 2, 3, 4]
        for place in (0, 9):
            calls = [0] + put(place, 2, 2, table) + [3, 0]
            self.assertEqual(answers(calls), [1, 0, 1, -1, 1, -1])
        self.assertEqual(answers([0] + put(0, 2, 65, [4] * 704) + [0]), [1, 0, 1, -1, 1, 0])
        for place in (0, 9):
            calls = [0] + find(place, [0, 1, 2, 3, 4, 5, 6, 7], 4200) + [3, 0]
            self.assertEqual(answers(calls), [1, 0, 1, -1, 1, -1])

    def test_what_is_handed_in_stays(self):
        calls = [0] + put(0, *permuting([0, 1, 2, 3])) + [2, 0, 9, 3, 0, 4, 0, 0, 3, 0]
        self.check_stays(calls)

    def test_what_is_handed_in_stays_with_the_later_calls(self):
        calls = begin() + put(0, *permuting([0, 1, 2, 3])) + put(1, *digit_sum(2, 5)) + count(0, 1, 3000)
        calls += differ(0, 1, 4200) + find(0, [1, 0, 2], 4200) + find(0, [], 9) + find(1, [0], 1)
        calls += both(2, 0, 1, 1) + both(0, 0, 0, 9) + find(2, [0] * 8, 9) + states(2)
        self.check_stays(calls)

    def check_stays(self, calls):
        before = tuple(calls)
        told = answers(calls)
        self.assertEqual(tuple(calls), before)
        self.assertEqual(answers(Fixed(calls)), told)

    def test_one_call_leaves_nothing_for_the_next(self):
        calls = [0] + put(0, 2, 1, [0, 0, 7]) + [2, 0, 0]
        first = answers(calls)
        self.assertEqual(first, [1, 0, 1, 0, 1, 7])
        first.append(99)
        self.assertEqual(answers([0, 2, 0, 0]), [1, 0, 1, -1])
        self.assertEqual(answers(calls), [1, 0, 1, 0, 1, 7])
        self.assertEqual(answers([]), [])
        calls = [0] + put(0, 2, 1, [0, 0, 7]) + both(1, 0, 0, 0) + find(1, [14], 9)
        self.assertEqual(answers(calls), [1, 0, 1, 0, 1, 0, 2, 1, 0])
        later = [0] + both(2, 1, 1, 0) + find(1, [14], 9) + differ(0, 0, 9) + count(0, 7, 9)
        self.assertEqual(answers(later), [1, 0, 1, -1, 1, -1, 1, -1, 1, -1])

    def test_plain_whole_numbers(self):
        calls = [0] + put(0, *permuting([0, 1, 1])) + [2, 0, 1, 3, 0, 4, 0, 4, 1]
        calls += put(1, *digit_sum(2, 3)) + both(2, 0, 1, 2) + term(2, 0) + term(2, 3) + count(2, 1, 9)
        calls += differ(0, 2, 9) + find(2, [1, 1], 9)
        told = answers(calls)
        self.assertIs(type(told), list)
        self.assertEqual({type(number) for number in told}, {int})

    def test_100_calls(self):
        calls = [0] + put(1, *permuting([0, 1, 2, 3, 4, 5, 6])) + [4, 1] * 98
        self.assertEqual(answers(calls), [1, 0, 1, 0] + [1, -2] * 98)

    def test_100_calls_of_all_kinds(self):
        ones = telling(digit_counter(3, 1, 5), [3, 1, 4, 1, 5])
        parts = [(begin(), [0]), (put(0, *ones), [0]), (find(0, [4], 9), [2, 1, 1]), (states(1), [-1]),
                 (both(1, 0, 0, 0), [0]), (states(1), [5]), (term(1, 4), [8]), (differ(0, 1, 9), [1, 0]),
                 (count(1, 8, 9), [1]), (kernel(1), [5]), (find(1, [8, 2], 1), [2, 1]), (kernel(2), [-1])]
        handed = []
        told = []
        # 12 parts 8 times over, and 4 more: the kinds begin anew with each begin.
        for call, answer in (parts * 9)[:100]:
            handed += call
            told += [len(answer)] + answer
        self.assertEqual(answers(handed), told)

    def test_100_calls_with_long_answers(self):
        handed = begin() + put(0, *telling(digit_counter(2, 1, 8), [0] * 7 + [1]))
        handed += put(1, *telling(digit_counter(2, 1, 7), [0] * 6 + [1])) + both(0, 0, 1, 1) + put(1, 2, 1, [0, 0, 0])
        handed += (find(0, [1], 4200) + differ(0, 1, 4200) + differ(1, 0, 54)) * 31 + states(0) + kernel(0)
        told = [1, 0] * 5 + ([56, 55] + [1] * 55 + [56, 55] + [1] * 55 + [55, 55] + [1] * 54) * 31 + [1, 56, 1, 56]
        # assertEqual would take minutes to tell how two lists of this length differ.
        self.assertTrue(answers(handed) == told)


if __name__ == "__main__":
    unittest.main()
