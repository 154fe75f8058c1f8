"""Promise 3: term."""

import unittest

from tests.calls import OUTSIDE_PLACES
from tests.calls import ask, ask_one, constant, digit_sum, first_digit, last_digit
from tests.calls import machine_of, plain_term, put, remainder, small_machines, term

GREATEST = 2 ** 64 - 1


class Term(unittest.TestCase):
    def test_0_has_the_one_digit_0(self):
        # By 1 there is another state, so 0 and 1 are told apart.
        machine = machine_of(2, [[0, 1, 30], [1, 1, 31]])
        self.assertEqual(ask_one(machine, term(0, 0), term(0, 1)), [30, 31])

    def test_the_highest_digit_is_read_first(self):
        for k in range(2, 9):
            numbers = (1, k - 1, k, 2 * k - 1, k * k - 1, k * k, 5 * k ** 7 + 1, k ** 20 - 1)
            told = ask_one(first_digit(k), *[term(0, m) for m in numbers])
            wanted = []
            for m in numbers:
                while m >= k:
                    m //= k
                wanted.append(m)
            self.assertEqual(told, wanted, k)

    def test_the_last_digit_is_read_last(self):
        for k in range(2, 9):
            numbers = (0, 1, k - 1, k, k + 1, k ** 9, k ** 9 - 1, GREATEST)
            told = ask_one(last_digit(k), *[term(0, m) for m in numbers])
            self.assertEqual(told, [m % k for m in numbers], k)

    def test_the_greatest_number_in_each_base(self):
        for k in range(2, 11):
            for p in (2, 3, 5, 7, 8):
                numbers = (GREATEST, GREATEST - 1, 2 ** 63, 2 ** 63 - 1, 2 ** 32)
                told = ask_one(remainder(k, p), *[term(0, m) for m in numbers])
                self.assertEqual(told, [m % p for m in numbers], (k, p))

    def test_sums_of_digits(self):
        decimal = ask_one(digit_sum(10, 7), term(0, 999), term(0, 10 ** 19), term(0, GREATEST))
        self.assertEqual(decimal, [27 % 7, 1, sum(map(int, str(GREATEST))) % 7])
        told = ask_one(digit_sum(2, 2), *[term(0, m) for m in range(16)])
        self.assertEqual(told, [0, 1, 1, 0, 1, 0, 0, 1, 1, 0, 0, 1, 0, 1, 1, 0])

    def test_the_same_as_by_the_table(self):
        for machine in small_machines(19):
            told = ask_one(machine, *[term(0, m) for m in range(16)])
            self.assertEqual(told, [plain_term(machine, m) for m in range(16)], machine)

    def test_a_constant(self):
        self.assertEqual(ask_one(constant(6, 255), term(0, 0), term(0, GREATEST)), [255, 255])

    def test_outside_the_places(self):
        for i in OUTSIDE_PLACES:
            sets = [put(j, *constant(2, 1)) for j in range(4)]
            self.assertEqual(ask(*sets, term(i, 0))[4:], [[-1]])

    def test_an_empty_place(self):
        self.assertEqual(ask(put(0, *constant(2, 1)), term(3, 0), term(3, GREATEST))[1:], [[-1], [-1]])

    def test_nothing_is_changed_by_it(self):
        told = ask_one(digit_sum(3, 4), term(0, 8), term(0, 8), term(1, 8), term(0, 8))
        self.assertEqual(told, [0, 0, -1, 0])
        told = ask_one(digit_sum(3, 4), term(0, 5), term(0, 7), term(0, 5))
        self.assertEqual(told, [3, 3, 3])


if __name__ == "__main__":
    unittest.main()
