"""Promise 7: differ."""

import unittest

from tests.calls import LEAST, MOST, OUTSIDE_PLACES
from tests.calls import ask, both, constant, differ, digit_counter, digit_sum, length, machine_of
from tests.calls import plain_digits, plain_term, put, remainder, small_machines, states, telling, term, word


def ask_two(first, second, *calls):
    """What the calls answer with the two machines at places 0 and 1."""
    told = ask(put(0, *first), put(1, *second), *calls)
    if told[:2] != [[0], [0]]:
        raise AssertionError("set answered %r" % (told[:2],))
    return told[2:]


class Where(unittest.TestCase):
    def test_at_0(self):
        for k in range(2, 11):
            self.assertEqual(ask_two(constant(k, 0), constant(k, 255), differ(0, 1, 9)), [[1, 0]])
        # At 0 alone.
        self.assertEqual(ask_two(length(10, 3), telling(length(10, 3), [9, 1, 2, 3]), differ(1, 0, 9)), [[1, 0]])

    def test_at_a_number_of_one_digit(self):
        for digit in range(1, 10):
            machine = machine_of(10, [[0] * digit + [1] + [0] * (9 - digit) + [0], [1] * 10 + [1]])
            told = ask_two(machine, constant(10, 0), differ(0, 1, 9), differ(1, 0, 9))
            self.assertEqual(told, [[1, digit], [1, digit]])

    def test_at_a_number_of_some_digits(self):
        for k, digits in ((2, [1, 0]), (2, [1, 0, 1, 1, 0, 0, 1]), (3, [2, 0, 0, 0, 0, 0, 1]), (10, [9] * 7),
                          (10, [1, 0, 0, 0, 0, 0, 0]), (7, [6, 5, 4, 3, 2, 1, 0]), (4, [3, 3, 0])):
            told = ask_two(word(k, digits), constant(k, 0), differ(0, 1, 4200), differ(1, 0, 4200))
            self.assertEqual(told, [[len(digits)] + digits] * 2, (k, digits))

    def test_at_a_number_of_many_digits(self):
        # Seven ones: the first time that counting them by 8 isn't counting them by 7.
        told = ask_two(digit_counter(2, 1, 8), digit_counter(2, 1, 7), differ(0, 1, 4200))
        self.assertEqual(told, [[7] + [1] * 7])
        # Both tell 1 at once with 55 ones only, as 56 is the least that 7 and 8 both divide.
        last = telling(digit_counter(2, 1, 8), [0] * 7 + [1]), telling(digit_counter(2, 1, 7), [0] * 6 + [1])
        told = ask_two(*last, both(2, 0, 1, 1), put(3, *constant(2, 0)), differ(2, 3, 4200), differ(3, 2, 56))
        self.assertEqual(told, [[0], [0], [55] + [1] * 55, [55] + [1] * 55])

    def test_the_least_where_many_differ(self):
        # From 200 to 999 all terms differ.
        first = length(10, 4)
        second = machine_of(10, [[0] + [1] + [2] * 8 + [0], [3] * 10 + [1], [4] * 10 + [1],
                                 [5] * 10 + [2], [6] * 10 + [2], [7] * 10 + [3], [7] * 10 + [0], [7] * 10 + [4]])
        self.assertEqual(ask_two(first, second, differ(0, 1, 9)), [[3, 2, 0, 0]])
        # The lesser number, not the one whose lower digit comes first: 19 ahead of 21.
        third = machine_of(10, [[0, 1, 2] + [3] * 7 + [0], [3] * 9 + [4, 0], [3, 4] + [3] * 8 + [0],
                                [3] * 10 + [0], [3] * 10 + [1]])
        self.assertEqual(ask_two(third, constant(10, 0), differ(0, 1, 9)), [[2, 1, 9]])
        # And the one with fewer digits: 9 ahead of 11.
        fourth = machine_of(10, [[0, 1] + [2] * 7 + [3, 0], [2, 3] + [2] * 8 + [0], [2] * 10 + [0], [2] * 10 + [1]])
        self.assertEqual(ask_two(fourth, constant(10, 0), differ(0, 1, 9)), [[1, 9]])

    def test_the_same_as_by_terms(self):
        machines = list(small_machines(97))
        # Fewer than 3 + 3 digits tell any two of them apart.
        terms = [[plain_term(machine, m) for m in range(64)] for machine in machines]
        for one in range(len(machines)):
            for other in range(len(machines)):
                wanted = [-2]
                for m in reversed(range(64)):
                    if terms[one][m] != terms[other][m]:
                        digits = plain_digits(m, 2)
                        wanted = [len(digits)] + digits
                told = ask_two(machines[one], machines[other], differ(0, 1, 4200))
                self.assertEqual(told, [wanted], (machines[one], machines[other]))


class Same(unittest.TestCase):
    def test_a_place_and_itself(self):
        told = ask_two(digit_sum(5, 7), constant(2, 3), differ(0, 0, 9), differ(1, 1, 9), differ(0, 0, 0))
        self.assertEqual(told, [[-2], [-2], [-2]])

    def test_the_same_machine(self):
        self.assertEqual(ask_two(remainder(6, 7), remainder(6, 7), differ(0, 1, 9)), [[-2]])

    def test_other_machines_with_the_same_sequence(self):
        twice = machine_of(4, [[(s + d) % 6 for d in range(4)] + [s % 3] for s in range(6)])
        self.assertEqual(ask_two(twice, digit_sum(4, 3), differ(0, 1, 9), differ(1, 0, 9)), [[-2], [-2]])
        # The states in another order; and one more that no number comes to.
        one = machine_of(3, [[0, 1, 2, 4], [1, 2, 0, 5], [2, 2, 1, 6]])
        other = machine_of(3, [[0, 2, 1, 4], [1, 1, 2, 6], [2, 1, 0, 5], [0, 1, 3, 7]])
        self.assertEqual(ask_two(one, other, differ(0, 1, 9)), [[-2]])
        # Remainders by 3 in base 10 are those of the sum of digits.
        self.assertEqual(ask_two(remainder(10, 3), digit_sum(10, 3), differ(0, 1, 9)), [[-2]])

    def test_refusals_change_nothing(self):
        told = ask_two(digit_sum(2, 3), constant(3, 1), differ(0, 1, 9), differ(0, 0, 9), states(0), states(1),
                       term(0, 3), term(1, 3))
        self.assertEqual(told, [[-1], [-2], [3], [1], [2], [1]])


class Refused(unittest.TestCase):
    def test_other_bases(self):
        self.assertEqual(ask_two(digit_sum(2, 3), digit_sum(3, 3), differ(0, 1, 9), differ(1, 0, 9)), [[-1], [-1]])
        # Also where the terms are the same.
        self.assertEqual(ask_two(constant(2, 7), constant(4, 7), differ(0, 1, 9), differ(1, 0, 0)), [[-1], [-1]])

    def test_outside_the_places(self):
        sets = [put(j, *constant(2, j)) for j in range(4)]
        for i in OUTSIDE_PLACES:
            told = ask(*sets, differ(i, 0, 9), differ(0, i, 9), differ(i, i, 9), differ(0, i, 0))
            self.assertEqual(told[4:], [[-1]] * 4)

    def test_an_empty_place(self):
        told = ask(put(1, *constant(2, 1)), differ(0, 1, 9), differ(1, 3, 9), differ(2, 2, 9), differ(1, 1, 9))
        self.assertEqual(told, [[0], [-1], [-1], [-1], [-2]])


class Most(unittest.TestCase):
    def test_the_first_most_digits(self):
        digits = [1, 0, 2, 2, 0, 1, 1]
        for most, told in ((0, []), (1, [1]), (3, [1, 0, 2]), (6, digits[:6]), (7, digits), (8, digits),
                           (4199, digits), (4200, digits), (4201, []), (MOST, []), (-1, []), (LEAST, [])):
            self.assertEqual(ask_two(word(3, digits), constant(3, 0), differ(0, 1, most)), [[7] + told], most)

    def test_of_0(self):
        for most, told in ((0, []), (1, [0]), (2, [0]), (4200, [0]), (4201, []), (-1, [])):
            self.assertEqual(ask_two(constant(3, 1), constant(3, 0), differ(0, 1, most)), [[1] + told], most)

    def test_nothing_behind_a_refusal(self):
        for most in (-1, 0, 1, 4200, 4201):
            told = ask_two(constant(3, 1), constant(2, 1), differ(0, 1, most), differ(0, 0, most))
            self.assertEqual(told, [[-1], [-2]])


if __name__ == "__main__":
    unittest.main()
