"""Promise 6: count."""

import unittest

from tests.calls import LEAST, MOST, OUTSIDE_PLACES
from tests.calls import ask, ask_one, constant, count, digit_sum, first_digit, last_digit, length
from tests.calls import machine_of, plain_term, put, remainder, small_machines, states, term


class Count(unittest.TestCase):
    def test_none_of_no_numbers(self):
        for x in (0, 1, 7, 255):
            self.assertEqual(ask_one(constant(2, x), count(0, x, 0)), [0])
        self.assertEqual(ask_one(digit_sum(10, 8), *[count(0, x, 0) for x in range(9)]), [0] * 9)

    def test_only_0_ahead_of_1(self):
        machine = machine_of(2, [[0, 1, 30], [1, 1, 31]])
        told = ask_one(machine, count(0, 30, 1), count(0, 31, 1), count(0, 30, 2), count(0, 31, 2))
        self.assertEqual(told, [1, 0, 1, 1])

    def test_the_last_number_is_n_less_1(self):
        # The numbers from 10 on have two digits, those from 100 on three.
        machine = length(10, 7)
        told = ask_one(machine, *[count(0, 2, n) for n in (9, 10, 11, 12, 99, 100, 101, 3000)])
        self.assertEqual(told, [0, 0, 1, 2, 89, 90, 90, 90])
        told = ask_one(machine, *[count(0, x, 3000) for x in range(8)])
        self.assertEqual(told, [1, 9, 90, 900, 2000, 0, 0, 0])

    def test_the_same_as_one_by_one(self):
        for machine in small_machines(31):
            terms = [plain_term(machine, m) for m in range(33)]
            for n in (0, 1, 2, 3, 6, 7, 8, 9, 32, 33):
                told = ask_one(machine, *[count(0, x, n) for x in range(3)])
                self.assertEqual(told, [terms[:n].count(x) for x in range(3)], (machine, n))

    def test_all_of_3000_in_each_base(self):
        for k in range(2, 11):
            for machine in (digit_sum(k, 7), first_digit(min(k, 8)), last_digit(min(k, 8))):
                terms = [plain_term(machine, m) for m in range(3000)]
                told = ask_one(machine, *[count(0, x, n) for n in (3000, 2999, 1729) for x in range(8)])
                wanted = [terms[:n].count(x) for n in (3000, 2999, 1729) for x in range(8)]
                self.assertEqual(told, wanted, k)

    def test_remainders(self):
        self.assertEqual(ask_one(remainder(10, 7), *[count(0, x, 3000) for x in range(7)]), [429] * 4 + [428] * 3)

    def test_states_that_tell_the_same_are_counted_together(self):
        machine = machine_of(3, [[0, 1, 2, 5], [1, 1, 2, 6], [2, 1, 2, 5]])
        terms = [plain_term(machine, m) for m in range(500)]
        told = ask_one(machine, count(0, 5, 500), count(0, 6, 500))
        self.assertEqual(told, [terms.count(5), terms.count(6)])

    def test_least_and_greatest_term(self):
        self.assertEqual(ask_one(constant(4, 0), count(0, 0, 3000), count(0, 255, 3000)), [3000, 0])
        self.assertEqual(ask_one(constant(4, 255), count(0, 0, 3000), count(0, 255, 3000)), [0, 3000])

    def test_a_term_outside_its_range(self):
        for x in (-1, 256, LEAST, MOST):
            told = ask_one(constant(2, 255), count(0, x, 3000), count(0, x, 0), count(0, x, 2 ** 63))
            self.assertEqual(told, [-1, -1, -1])
        # Nor as the term that it is modulo 256.
        self.assertEqual(ask_one(constant(2, 0), count(0, 256, 9), count(0, -256, 9)), [-1, -1])

    def test_a_term_that_no_number_has(self):
        told = ask_one(remainder(3, 5), *[count(0, x, 3000) for x in (5, 6, 128, 255)])
        self.assertEqual(told, [0, 0, 0, 0])
        # State 1 tells it, but no number comes there.
        self.assertEqual(ask_one(machine_of(2, [[0, 0, 5], [1, 1, 6]]), count(0, 6, 3000)), [0])

    def test_numbers_from_2_63_on(self):
        for n in (2 ** 63, 2 ** 63 + 1, 2 ** 64 - 1):
            self.assertEqual(ask_one(remainder(10, 3), count(0, 0, n), count(0, 9, n)), [-1, -1])

    def test_numbers_up_to_2_63(self):
        n = 2 ** 63 - 1
        for k in (2, 7, 10):
            told = ask_one(remainder(k, 8), *[count(0, x, n) for x in range(8)])
            self.assertEqual(told, [len(range(x, n, 8)) for x in range(8)])

    def test_outside_the_places(self):
        sets = [put(j, *constant(2, 1)) for j in range(4)]
        for i in OUTSIDE_PLACES:
            told = ask(*sets, count(i, 1, 5), count(i, 1, 0), count(i, -1, 5), count(i, 1, 2 ** 64 - 1))
            self.assertEqual(told[4:], [[-1]] * 4)

    def test_an_empty_place(self):
        told = ask(put(2, *constant(2, 1)), count(0, 1, 5), count(2, 1, 5), count(3, 0, 0))
        self.assertEqual(told, [[0], [-1], [5], [-1]])

    def test_nothing_is_changed_by_it(self):
        told = ask_one(digit_sum(2, 3), count(0, 0, 8), count(0, 300, 8), term(0, 7), states(0), count(0, 0, 8))
        self.assertEqual(told, [2, -1, 0, 3, 2])


if __name__ == "__main__":
    unittest.main()
