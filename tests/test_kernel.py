"""Promise 5: kernel."""

import unittest

from tests.calls import OUTSIDE_PLACES
from tests.calls import ask, ask_one, constant, digit_sum, first_digit, kernel, last_digit
from tests.calls import machine_of, permuting, plain_kernel, put, remainder, small_machines, states, term

# Machines of base 3 found by a search; the tests count their sequences once more by terms.
WITH_999 = (3, 6, [0, 5, 2, 3, 3, 3, 0, 3, 4, 4, 5, 0, 5, 1, 4, 1, 4, 3, 1, 3, 0, 2, 1, 4])
WITH_1000 = (3, 5, [0, 4, 2, 1, 1, 2, 3, 2, 4, 0, 0, 0, 2, 3, 4, 1, 0, 2, 1, 3])
WITH_1001 = (3, 6, [0, 2, 1, 2, 1, 4, 3, 0, 0, 1, 3, 2, 2, 3, 5, 1, 1, 5, 3, 3, 2, 0, 0, 1])


class Kernel(unittest.TestCase):
    def test_a_constant_has_one(self):
        for k in range(2, 11):
            self.assertEqual(ask_one(constant(k, k), kernel(0)), [1])

    def test_sums_of_digits(self):
        # Digits behind add the same to each term, so there is one for each remainder.
        self.assertEqual(ask_one(digit_sum(2, 2), kernel(0)), [2])
        self.assertEqual(ask_one(digit_sum(10, 8), kernel(0)), [8])

    def test_the_last_digit(self):
        # The sequence itself, and for each last digit of r one that is constant.
        for k in range(2, 9):
            self.assertEqual(ask_one(last_digit(k), kernel(0)), [k + 1], k)

    def test_the_first_digit(self):
        # Only the term of 0 hangs on r: it is r's first digit.
        for k in range(2, 9):
            self.assertEqual(ask_one(first_digit(k), kernel(0)), [k], k)

    def test_remainders(self):
        # (k^e m + r) modulo p: one for each remainder of k^e and each of r.
        self.assertEqual(ask_one(remainder(10, 7), kernel(0)), [42])
        self.assertEqual(ask_one(remainder(3, 8), kernel(0)), [16])
        self.assertEqual(ask_one(remainder(10, 3), kernel(0)), [3])
        self.assertEqual(ask_one(remainder(8, 7), kernel(0)), [7])

    def test_zeros_at_the_front_of_r(self):
        # Tells 1 for numbers of three digits or more: from 4 on. With digits behind m that's
        # told from 2, from 1, and from 0 on; from 0 on only if r itself is 4 or more.
        machine = machine_of(2, [[0, 1, 0], [2, 2, 0], [3, 3, 0], [3, 3, 1]])
        self.assertEqual(ask_one(machine, *[term(0, m) for m in range(6)]), [0, 0, 0, 0, 1, 1])
        self.assertEqual(plain_kernel(machine, 8), 4)
        self.assertEqual(ask_one(machine, kernel(0)), [4])

    def test_paper_folding_and_rudin_shapiro(self):
        # Rudin-Shapiro: whether 11 stands an odd number of times in m's digits.
        shapiro = machine_of(2, [[0, 1, 0], [0, 2, 0], [3, 1, 1], [3, 2, 1]])
        self.assertEqual(ask_one(shapiro, *[term(0, m) for m in range(8)]), [0, 0, 0, 1, 0, 0, 1, 0])
        self.assertEqual(ask_one(shapiro, kernel(0)), [4])
        # Paper folding: the digit ahead of the last 1. Behind m come either zeros alone, and
        # it stays; or a last 1 right behind m; or r tells it, the same for each m.
        folding = machine_of(2, [[0, 1, 0], [2, 3, 0], [2, 1, 0], [4, 3, 1], [4, 1, 1]])
        self.assertEqual(ask_one(folding, *[term(0, m) for m in range(8)]), [0, 0, 0, 1, 0, 0, 1, 1])
        self.assertEqual(ask_one(folding, kernel(0)), [4])

    def test_the_same_as_by_terms(self):
        for machine in small_machines(5):
            self.assertEqual(ask_one(machine, kernel(0)), [plain_kernel(machine, 4)], machine)

    def test_states_that_no_number_comes_to_change_nothing(self):
        # State 2 alone would tell more sequences apart.
        machine = machine_of(2, [[0, 1, 0], [1, 0, 1], [3, 4, 2], [2, 4, 3], [4, 2, 4]])
        self.assertEqual(ask_one(machine, kernel(0)), [2])
        large = permuting([0, 1, 2, 3, 4, 5, 6])
        rows = [[0, 0, 9]] + [[1 + way for way in large[2][3 * s:3 * s + 2]] + [s] for s in range(7)]
        self.assertEqual(ask_one(machine_of(2, rows), kernel(0)), [1])

    def test_orders(self):
        # Digits behind m change what is told into any order of it: 6!, and 7! by 3!.
        self.assertEqual(ask_one(permuting([0, 1, 2, 3, 4, 5]), kernel(0)), [720])
        self.assertEqual(ask_one(permuting([0, 1, 2, 3, 4, 4, 4]), kernel(0)), [840])

    def test_more_than_1000(self):
        # 7!, 7! by 2! 2!, and 8! by 3! 3!.
        self.assertEqual(ask_one(permuting([0, 1, 2, 3, 4, 5, 6]), kernel(0)), [-2])
        self.assertEqual(ask_one(permuting([0, 1, 2, 3, 3, 4, 4]), kernel(0)), [-2])
        self.assertEqual(ask_one(permuting([0, 1, 2, 2, 2, 3, 3, 3]), kernel(0)), [-2])

    def test_round_1000(self):
        for machine, many in ((WITH_999, 999), (WITH_1000, 1000), (WITH_1001, 1001)):
            self.assertEqual(plain_kernel(machine, 81), many)
        self.assertEqual(ask_one(WITH_999, kernel(0)), [999])
        self.assertEqual(ask_one(WITH_1000, kernel(0)), [1000])
        self.assertEqual(ask_one(WITH_1001, kernel(0)), [-2])

    def test_a_refusal_changes_nothing(self):
        machine = permuting([0, 1, 2, 3, 4, 5, 6])
        self.assertEqual(ask_one(machine, kernel(0), states(0), kernel(0), term(0, 1)), [-2, 7, -2, 1])

    def test_outside_the_places(self):
        sets = [put(j, *constant(2, 1)) for j in range(4)]
        for i in OUTSIDE_PLACES:
            self.assertEqual(ask(*sets, kernel(i))[4:], [[-1]])

    def test_an_empty_place(self):
        self.assertEqual(ask(put(3, *constant(2, 1)), kernel(0), kernel(3), kernel(2)), [[0], [-1], [1], [-1]])


if __name__ == "__main__":
    unittest.main()
