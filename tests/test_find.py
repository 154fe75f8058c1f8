"""Promise 8: find."""

import unittest

from tests.calls import LEAST, MOST, OUTSIDE_PLACES
from tests.calls import ask, both, constant, digit_counter, digit_sum, find, first_digit, kernel, last_digit
from tests.calls import length, machine_of, permuting, plain_digits, plain_term, put, remainder
from tests.calls import small_machines, states, telling, term, word


def ask_rows(machine, *rows):
    """Where each of the rows stands first, with all digits of it."""
    told = ask(put(0, *machine), *[find(0, row, 4200) for row in rows])
    if told[0] != [0]:
        raise AssertionError("set answered %r" % (told[0],))
    return told[1:]


def terms_of(machine, m, many):
    return [plain_term(machine, m + i) for i in range(many)]


def first_place(terms, row):
    """The least m at which the row stands among the terms, or None."""
    for m in range(len(terms) - len(row) + 1):
        if terms[m:m + len(row)] == row:
            return m
    return None


class Where(unittest.TestCase):
    def test_a_row_of_one_number(self):
        self.assertEqual(ask_rows(last_digit(8), *[[x] for x in range(8)]), [[1, x] for x in range(8)])
        self.assertEqual(ask_rows(length(10, 7), [0], [1], [2], [7]),
                         [[1, 0], [1, 1], [2, 1, 0], [7, 1, 0, 0, 0, 0, 0, 0]])
        digits = [2, 0, 1, 1, 0, 0, 2]
        self.assertEqual(ask_rows(word(3, digits), [0], [1]), [[1, 0], [7] + digits])

    def test_a_row_that_stands_at_0(self):
        for k in range(2, 11):
            for machine in (constant(k, 255), digit_sum(k, 8), length(k, 3)):
                for many in range(1, 9):
                    self.assertEqual(ask_rows(machine, terms_of(machine, 0, many)), [[1, 0]], (k, many))

    def test_a_row_of_eight(self):
        self.assertEqual(ask_rows(remainder(10, 7), [0, 1, 2, 3, 4, 5, 6, 0], [6, 0, 1, 2, 3, 4, 5, 6]),
                         [[1, 0], [1, 6]])
        # Thue and Morse's: the sum of binary digits modulo 2.
        row = [1, 0, 1, 1, 0, 1, 0, 0]
        terms = terms_of(digit_sum(2, 2), 0, 99)
        self.assertEqual(first_place(terms, row), 11)
        self.assertEqual(ask_rows(digit_sum(2, 2), row), [[4, 1, 0, 1, 1]])

    def test_one_digit_more_behind_it(self):
        self.assertEqual(ask_rows(length(10, 7), [1, 2], [6, 7], [3, 3, 3, 4, 4, 4, 4, 4], [5] * 7 + [6]),
                         [[1, 9], [6] + [9] * 6, [3, 9, 9, 7], [5, 9, 9, 9, 9, 3]])
        for k in range(2, 11):
            self.assertEqual(ask_rows(length(k, 5), [3, 4], [0, 1]), [[3] + [k - 1] * 3, [1, 0]], k)
        self.assertEqual(ask_rows(length(2, 4), [3, 3, 3, 4, 4, 4, 4, 4], [1, 2, 2, 3, 3, 3, 3, 4]),
                         [[3, 1, 0, 1], [1, 1]])

    def test_other_digits_ahead_behind_it(self):
        # In base 8: from 12, 37 and 76 on.
        self.assertEqual(ask_rows(first_digit(8), [1] * 6 + [2] * 2, [3] + [4] * 7, [7] * 2 + [1] * 6),
                         [[2, 1, 2], [2, 3, 7], [2, 7, 6]])
        # In base 10 from 3999 and 3997 on, in base 4 from 2333 and 2331 on.
        for k, digit in ((10, 3), (4, 2)):
            marked = word(k, [digit] + [k - 1] * 3)
            wanted = [[4, digit, k - 1, k - 1, k - 1], [4, digit, k - 1, k - 1, k - 3]]
            self.assertEqual(ask_rows(marked, [1, 0], [0, 0, 1, 0]), wanted)

    def test_over_more_than_two_blocks_of_digits(self):
        # In base 2 a row of eight goes over four numbers or five without their last digit.
        for m in range(40):
            row = terms_of(remainder(2, 8), m, 8)
            self.assertEqual(ask_rows(remainder(2, 8), row), [[len(plain_digits(m % 8, 2))] + plain_digits(m % 8, 2)])
        # 7 numbers ahead of 1011001, and the one ahead of it.
        marked = word(2, [1, 0, 1, 1, 0, 0, 1])
        self.assertEqual(ask_rows(marked, [0] * 7 + [1], [0, 1, 0, 0, 0, 0, 0, 0], [0] * 8),
                         [[7, 1, 0, 1, 0, 0, 1, 0], [7, 1, 0, 1, 1, 0, 0, 0], [1, 0]])

    def test_the_same_as_by_terms(self):
        for machine in small_machines(149):
            terms = [plain_term(machine, m) for m in range(200)]
            for m in range(64):
                for many in range(1, 9):
                    row = terms[m:m + many]
                    digits = plain_digits(first_place(terms, row), 2)
                    self.assertEqual(ask_rows(machine, row), [[len(digits)] + digits], (machine, row))

    def test_the_same_as_by_terms_in_each_base(self):
        for k in range(2, 11):
            marks = [0, 1, 1, 0, 1, 0, 0, 0]
            for p, tells in ((5, marks[:5]), (7, marks[:7]), (8, marks)):
                machine = telling(remainder(k, p), tells)
                self.check_rows(machine)
                self.check_rows(telling(digit_sum(k, p), tells))

    def check_rows(self, machine):
        k = machine[0]
        terms = [plain_term(machine, m) for m in range(k ** 3 + 10)]
        starts = (1, k - 1, k, k * k - 2, k * k - 1, k * k, k ** 3 - 7, k ** 3 - 1, k ** 3)
        rows = [terms[m:m + many] for m in starts for many in (1, 2, 3, 7, 8)]
        wanted = []
        for row in rows:
            digits = plain_digits(first_place(terms, row), k)
            wanted.append([len(digits)] + digits)
        self.assertEqual(ask_rows(machine, *rows), wanted, machine)

    def test_at_a_number_of_many_digits(self):
        told = ask(put(0, *telling(digit_counter(2, 1, 8), [0] * 7 + [1])),
                   put(1, *telling(digit_counter(2, 1, 7), [0] * 6 + [1])), both(2, 0, 1, 1), states(2),
                   find(2, [1], 4200), find(2, [0, 1], 4200), find(2, [1, 1], 4200), find(2, [1, 1], 55))
        # Behind a number with 55 ones comes one with as many if its last digits are 01.
        wanted = [[55] + [1] * 55, [55] + [1] * 54 + [0], [56] + [1] * 54 + [0, 1], [56] + [1] * 54 + [0]]
        self.assertEqual(told, [[0], [0], [0], [56]] + wanted)

    def test_a_row_of_32(self):
        for k in range(2, 11):
            machine = length(k, 7)
            for start in (k ** 6 - 3, k ** 6 - 30):
                wanted = plain_digits(start, k)
                self.assertEqual(ask_rows(machine, terms_of(machine, start, 32)), [[len(wanted)] + wanted], k)


class Nowhere(unittest.TestCase):
    def test_a_number_that_is_no_term(self):
        self.assertEqual(ask_rows(constant(2, 0), [1], [255], [0, 0, 0, 1], [1, 0]), [[-2]] * 4)
        # A state tells it, but no number comes there.
        self.assertEqual(ask_rows(machine_of(2, [[0, 0, 5], [1, 1, 6]]), [6], [5]), [[-2], [1, 0]])

    def test_a_row_of_terms_that_is_none(self):
        # Thue and Morse's: nothing stands three times in a row, and no 01010.
        self.assertEqual(ask_rows(digit_sum(2, 2), [0, 0, 0], [1, 1, 1], [0, 1, 0, 1, 0], [1, 0, 1, 0, 1]), [[-2]] * 4)
        self.assertEqual(ask_rows(remainder(10, 7), [0, 2], [1, 1], [0, 1, 2, 3, 4, 5, 6, 1]), [[-2]] * 3)
        self.assertEqual(ask_rows(length(10, 7), [2, 1], [7, 6], [0, 0], [2, 2, 2, 4]), [[-2]] * 4)

    def test_a_row_that_only_the_number_before_0_would_have(self):
        # 1 stands at 0 alone, and so behind no other number.
        machine = machine_of(3, [[0, 1, 1, 1], [1, 1, 1, 0]])
        self.assertEqual(ask_rows(machine, [0, 1], [1, 0], [1, 1], [0, 0]), [[-2], [1, 0], [-2], [1, 1]])

    def test_refusals_change_nothing(self):
        machine = digit_sum(2, 2)
        told = ask(put(0, *machine), find(0, [0, 0, 0], 9), find(0, [], 9), states(0), term(0, 7), kernel(0),
                   find(0, [0, 0], 9))
        self.assertEqual(told, [[0], [-2], [-1], [2], [1], [2], [3, 1, 0, 1]])


class Refused(unittest.TestCase):
    def test_an_empty_row(self):
        for most in (-1, 0, 1, 4200, 4201):
            self.assertEqual(ask(put(0, *constant(2, 1)), find(0, [], most)), [[0], [-1]])

    def test_a_row_of_more_than_32(self):
        told = ask(put(0, *constant(2, 1)), find(0, [1] * 32, 9), find(0, [1] * 33, 9), find(0, [2] * 33, 9))
        self.assertEqual(told, [[0], [1, 0], [-1], [-1]])

    def test_outside_the_places(self):
        sets = [put(j, *constant(2, 1)) for j in range(4)]
        for i in OUTSIDE_PLACES:
            told = ask(*sets, find(i, [1], 9), find(i, [2], 9), find(i, [], 9), find(i, [1] * 8, 0))
            self.assertEqual(told[4:], [[-1]] * 4)

    def test_an_empty_place(self):
        told = ask(put(2, *constant(2, 1)), find(0, [1], 9), find(2, [1], 9), find(3, [2], 9))
        self.assertEqual(told, [[0], [-1], [1, 0], [-1]])


class Most(unittest.TestCase):
    def test_the_first_most_digits(self):
        digits = [1, 0, 2, 2, 0, 1, 1]
        for most, told in ((0, []), (1, [1]), (3, [1, 0, 2]), (6, digits[:6]), (7, digits), (8, digits),
                           (4199, digits), (4200, digits), (4201, []), (MOST, []), (-1, []), (LEAST, [])):
            self.assertEqual(ask(put(0, *word(3, digits)), find(0, [1], most)), [[0], [7] + told], most)

    def test_of_0(self):
        for most, told in ((0, []), (1, [0]), (2, [0]), (4200, [0]), (4201, []), (-1, [])):
            self.assertEqual(ask(put(0, *permuting([0, 1, 2, 3])), find(0, [0, 1], most)), [[0], [1] + told], most)

    def test_nothing_behind_a_refusal(self):
        for most in (-1, 0, 1, 4200, 4201):
            self.assertEqual(ask(put(0, *constant(2, 1)), find(0, [2], most), find(1, [1], most)), [[0], [-2], [-1]])


if __name__ == "__main__":
    unittest.main()
