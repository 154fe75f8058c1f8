"""The interface: answers(calls)."""

import unittest

from digitseq.places import answers
from tests.calls import permuting, put


class Fixed(list):
    """A list that is not to be changed, not for a while either."""

    def change(self, *given, **named):
        raise AssertionError("the list that was handed in is changed")

    append = extend = insert = remove = pop = clear = sort = reverse = change
    __setitem__ = __delitem__ = __iadd__ = __imul__ = change


class Answers(unittest.TestCase):
    def test_no_calls(self):
        self.assertEqual(answers([]), [])

    def test_how_calls_and_answers_stand(self):
        calls = [0,
                 1, 3, 2, 2, 6, 0, 1, 40, 1, 0, 41,
                 2, 3, 18446744073709551615,
                 3, 3,
                 4, 3,
                 2, 0, 5,
                 1, 3, 2, 0, 0,
                 3, 3,
                 0,
                 4, 3]
        self.assertEqual(answers(calls), [1, 0, 1, 0, 1, 40, 1, 2, 1, 2, 1, -1, 1, -1, 1, 2, 1, 0, 1, -1])

    def test_a_refused_row_is_passed_over(self):
        table = [0, 1, 2, 3, 4]
        for place in (0, 9):
            calls = [0] + put(place, 2, 2, table) + [3, 0]
            self.assertEqual(answers(calls), [1, 0, 1, -1, 1, -1])
        self.assertEqual(answers([0] + put(0, 2, 65, [4] * 704) + [0]), [1, 0, 1, -1, 1, 0])

    def test_what_is_handed_in_stays(self):
        calls = [0] + put(0, *permuting([0, 1, 2, 3])) + [2, 0, 9, 3, 0, 4, 0, 0, 3, 0]
        before = tuple(calls)
        told = answers(calls)
        self.assertEqual(tuple(calls), before)
        self.assertEqual(answers(Fixed(calls)), told)

    def test_one_call_leaves_nothing_for_the_next(self):
        calls = [0] + put(0, 2, 1, [0, 0, 7]) + [2, 0, 0]
        first = answers(calls)
        self.assertEqual(first, [1, 0, 1, 0, 1, 7])
        first.append(99)
        self.assertEqual(answers([0, 2, 0, 0]), [1, 0, 1, -1])
        self.assertEqual(answers(calls), [1, 0, 1, 0, 1, 7])
        self.assertEqual(answers([]), [])

    def test_plain_whole_numbers(self):
        calls = [0] + put(0, *permuting([0, 1, 1])) + [2, 0, 1, 3, 0, 4, 0, 4, 1]
        told = answers(calls)
        self.assertIs(type(told), list)
        self.assertEqual({type(number) for number in told}, {int})

    def test_100_calls(self):
        calls = [0] + put(1, *permuting([0, 1, 2, 3, 4, 5, 6])) + [4, 1] * 98
        self.assertEqual(answers(calls), [1, 0, 1, 0] + [1, -2] * 98)


if __name__ == "__main__":
    unittest.main()
