"""Promise 9: both."""

import unittest

from tests.calls import LEAST, MOST, OUTSIDE_PLACES
from tests.calls import ask, both, constant, count, differ, digit_counter, digit_sum, find, first_digit
from tests.calls import kernel, last_digit, length, machine_of, permuting, plain_kernel, plain_term, put, remainder
from tests.calls import small_machines, states, telling, term

# For each what, by the words of the promise.
JOINED = (lambda x, y: (x + y) % 256,
          lambda x, y: x * y % 256,
          lambda x, y: 1 if x == y else 0,
          lambda x, y: x if x < y else y,
          lambda x, y: x if x > y else y)

WHATS = (0, 1, 2, 3, 4)

# How often 1 stands in the number, and how often 2, both by 8: all 64 pairs are to be found.
ONES = digit_counter(3, 1, 8)
TWOS = digit_counter(3, 2, 8)
TWOS_BY_8 = telling(TWOS, [8 * s for s in range(8)])

# 1 for all numbers but 0.
NOT_0 = machine_of(3, [[0, 1, 1, 0], [1, 1, 1, 1]])


def plain_both(first, second, what):
    """(k, n, table) of a machine whose states are all pairs, however many."""
    k, n, table = first
    other_k, other_n, other = second
    rows = []
    for s in range(n):
        for t in range(other_n):
            ways = [table[s * (k + 1) + d] * other_n + other[t * (k + 1) + d] for d in range(k)]
            rows.append(ways + [JOINED[what](table[s * (k + 1) + k], other[t * (k + 1) + k])])
    return machine_of(k, rows)


def full():
    """The calls that give place 0 a machine of 64 states, one for each of the pairs."""
    return [put(0, *ONES), put(1, *TWOS_BY_8), both(0, 0, 1, 0)]


class Told(unittest.TestCase):
    def check_terms(self, first, second, numbers):
        for what in WHATS:
            told = ask(put(0, *first), put(1, *second), both(2, 0, 1, what), *[term(2, m) for m in numbers])
            self.assertEqual(told[:3], [[0], [0], [0]])
            wanted = [JOINED[what](plain_term(first, m), plain_term(second, m)) for m in numbers]
            self.assertEqual([part[0] for part in told[3:]], wanted, (first, second, what))

    def test_each_what(self):
        # 5 and 3 at 0, 3 and 5 at 1, 4 and 4 at 2.
        first = machine_of(3, [[0, 1, 2, 5], [1, 1, 1, 3], [2, 2, 2, 4]])
        second = machine_of(3, [[0, 1, 2, 3], [1, 1, 1, 5], [2, 2, 2, 4]])
        for what, wanted in ((0, [8, 8, 8]), (1, [15, 15, 16]), (2, [0, 0, 1]), (3, [3, 3, 4]), (4, [5, 5, 4])):
            told = ask(put(0, *first), put(1, *second), both(2, 0, 1, what), term(2, 0), term(2, 1), term(2, 2))
            self.assertEqual(told[2:], [[0]] + [[x] for x in wanted])

    def test_sums_and_products_above_255(self):
        for x, y, total, product in ((255, 255, 254, 1), (255, 1, 0, 255), (128, 128, 0, 0), (200, 100, 44, 32),
                                     (16, 16, 32, 0), (15, 17, 32, 255), (254, 1, 255, 254), (0, 255, 255, 0)):
            told = ask(put(0, *constant(2, x)), put(1, *constant(2, y)), both(2, 0, 1, 0), both(3, 0, 1, 1),
                       term(2, 9), term(3, 9))
            self.assertEqual(told[2:], [[0], [0], [total], [product]], (x, y))

    def test_terms_of_each_number(self):
        numbers = list(range(60)) + [3 ** 20 - 1, 2 ** 64 - 1]
        for k in (2, 3, 10):
            machines = [telling(digit_sum(k, 5), [0, 255, 100, 2, 100]), telling(remainder(k, 7), [100] * 3 + [200] * 4),
                        length(k, 4), telling(last_digit(2 if k == 2 else 3), [7] * min(k, 3))]
            for first in machines[:3]:
                for second in machines[:3]:
                    self.check_terms(first, second, numbers)
        for machine in small_machines(311):
            self.check_terms(machine, permuting([1, 0, 2, 0]), range(40))

    def test_in_either_order(self):
        for what in WHATS:
            told = ask(put(0, *remainder(4, 5)), put(1, *digit_sum(4, 8)), both(2, 0, 1, what), both(3, 1, 0, what),
                       differ(2, 3, 9))
            self.assertEqual(told[2:], [[0], [0], [-2]])

    def test_a_place_with_itself(self):
        wanted = ([0, 2, 4], [0, 1, 4], [1, 1, 1], [0, 1, 2], [0, 1, 2])
        for what in WHATS:
            told = ask(put(1, *digit_sum(3, 3)), both(2, 1, 1, what), *[term(2, m) for m in range(3)])
            self.assertEqual(told[2:], [[x] for x in wanted[what]])


class Where(unittest.TestCase):
    # 16 is 121 in base 3, and 8 is 22.

    def test_over_the_first(self):
        told = ask(put(0, *ONES), put(1, *TWOS), both(0, 0, 1, 0), term(0, 16), term(1, 16), term(0, 8), term(1, 8))
        self.assertEqual(told[2:], [[0], [2 + 1], [1], [2], [2]])

    def test_over_the_second(self):
        told = ask(put(0, *ONES), put(1, *TWOS), both(1, 0, 1, 0), term(0, 16), term(1, 16), term(0, 8), term(1, 8))
        self.assertEqual(told[2:], [[0], [2], [2 + 1], [0], [2]])

    def test_over_both_at_once(self):
        told = ask(put(3, *ONES), both(3, 3, 3, 0), term(3, 1), both(3, 3, 3, 0), term(3, 1), both(3, 3, 3, 1),
                   term(3, 1), states(3))
        self.assertEqual(told[1:], [[0], [2], [0], [4], [0], [16], [8]])

    def test_other_places_stay(self):
        sets = [put(i, *telling(ONES, [20 * i + s for s in range(8)])) for i in range(3)]
        told = ask(*sets, both(3, 1, 2, 0), *[term(i, 4) for i in range(4)])
        self.assertEqual(told[3:], [[0], [2], [22], [42], [64]])
        told = ask(*sets, both(0, 1, 2, 0), *[term(i, 4) for i in range(4)])
        self.assertEqual(told[3:], [[0], [64], [22], [42], [-1]])

    def test_it_stays_as_it_was_made(self):
        told = ask(put(0, *ONES), put(1, *TWOS), both(2, 0, 1, 0), put(0, *constant(3, 9)), both(1, 0, 0, 4),
                   term(2, 16), term(0, 16), term(1, 16))
        self.assertEqual(told[3:], [[0], [0], [3], [9], [9]])

    def test_over_a_machine_of_another_base(self):
        told = ask(put(0, *ONES), put(1, *constant(10, 7)), both(1, 0, 0, 0), term(1, 4), differ(0, 1, 9))
        self.assertEqual(told[2:], [[0], [4], [1, 1]])


class HowMany(unittest.TestCase):
    def test_just_64(self):
        self.assertEqual(ask(*full(), states(0), kernel(0))[2:], [[0], [64], [64]])
        # How many ones there are by 8 is known from the 64 states already.
        told = ask(*full(), put(2, *ONES), both(3, 0, 2, 4), states(3), differ(0, 3, 9))
        self.assertEqual(told[4:], [[0], [64], [-2]])

    def test_one_more(self):
        # 0 is told apart from the numbers with 8 ones and 8 twos, so that makes 65.
        apart = telling(NOT_0, [0, 64])
        told = ask(*full(), put(2, *apart), both(3, 0, 2, 0), term(3, 0), states(0), states(2), term(0, 16))
        self.assertEqual(told[3:], [[0], [-2], [-1], [64], [2], [2 + 8]])
        # With 7 by 8 there are few enough.
        told = ask(put(0, *digit_counter(3, 1, 7)), put(1, *TWOS_BY_8), both(0, 0, 1, 0), put(2, *apart),
                   both(3, 0, 2, 0), states(3), term(3, 0), term(3, 16))
        self.assertEqual(told[2:], [[0], [0], [0], [57], [0], [64 + 2 + 8]])

    def test_many_more(self):
        # 64 by 64: how often 1, 2, 3 and 4 stand in a number in base 5, each by 8.
        fours = [put(0, *digit_counter(5, 1, 8)), put(1, *telling(digit_counter(5, 2, 8), [8 * s for s in range(8)])),
                 both(0, 0, 1, 0), put(1, *digit_counter(5, 3, 8)),
                 put(2, *telling(digit_counter(5, 4, 8), [8 * s for s in range(8)])), both(1, 1, 2, 0)]
        for what in (0, 1, 3, 4):
            told = ask(*fours, both(2, 0, 1, what), states(0), states(1), states(2))
            self.assertEqual(told[6:], [[-2], [64], [64], [8]], what)
        # Whether they're the same hangs on two differences alone.
        self.assertEqual(ask(*fours, both(2, 0, 1, 2), states(2))[6:], [[0], [64]])

    def test_the_least_number_is_what_counts(self):
        # 64 by 8 pairs, of which the terms tell few apart, or all as the same.
        other = put(2, *telling(digit_sum(3, 7), [64, 65, 66, 67, 68, 69, 70]))
        for what, many in ((2, 1), (3, 64), (4, 7)):
            told = ask(*full(), other, both(3, 0, 2, what), states(3))
            self.assertEqual(told[4:], [[0], [many]], what)
        told = ask(*full(), other, put(3, *constant(3, 0)), both(0, 0, 3, 1), states(0), both(0, 0, 2, 0), states(0))
        self.assertEqual(told[5:], [[0], [1], [0], [7]])
        # The sum by 8 of both is known from the sum of ones and twos alone.
        told = ask(put(0, *telling(ONES, [32 * s for s in range(8)])),
                   put(1, *telling(TWOS, [32 * s for s in range(8)])), both(2, 0, 1, 0), states(2))
        self.assertEqual(told[2:], [[0], [8]])

    def test_told_apart_only_many_digits_on(self):
        # 56 states, only the last of which tells 1; beside them 56 that make no difference.
        last = [put(0, *telling(ONES, [0] * 7 + [1])), put(1, *telling(digit_counter(3, 1, 7), [0] * 6 + [1])),
                both(0, 0, 1, 1), put(1, *telling(TWOS, range(1, 9))),
                put(2, *telling(digit_counter(3, 2, 7), [0, 10, 20, 30, 40, 50, 60])), both(1, 1, 2, 0)]
        told = ask(*last, states(0), states(1), both(2, 0, 1, 3), states(2), differ(0, 2, 9))
        self.assertEqual(told[2:], [[0], [0], [0], [0], [56], [56], [0], [56], [-2]])


class Refused(unittest.TestCase):
    def check_refused(self, call, answer, sets):
        """The call answers just this, and all places are as they were before."""
        looks = [states(j) for j in range(4)] + [term(j, m) for j in range(4) for m in (0, 1, 2, 7)]
        before = ask(*sets, *looks)
        told = ask(*sets, call, *looks)
        self.assertEqual(told[len(sets)], [answer], call)
        self.assertEqual(told[len(sets) + 1:], before[len(sets):], call)

    def test_what(self):
        sets = [put(0, *ONES), put(1, *TWOS), put(2, *constant(3, 9))]
        for what in (-1, 5, 6, LEAST, MOST):
            self.check_refused(both(2, 0, 1, what), -1, sets)
            self.check_refused(both(3, 0, 1, what), -1, sets)
            self.check_refused(both(0, 0, 0, what), -1, sets)

    def test_outside_the_places(self):
        sets = [put(j, *telling(ONES, [10 * j + s for s in range(8)])) for j in range(4)]
        for i in OUTSIDE_PLACES:
            for what in WHATS:
                self.check_refused(both(i, 0, 1, what), -1, sets)
                self.check_refused(both(0, i, 1, what), -1, sets)
                self.check_refused(both(0, 1, i, what), -1, sets)
                self.check_refused(both(i, i, i, what), -1, sets)

    def test_an_empty_place(self):
        sets = [put(1, *ONES)]
        self.check_refused(both(1, 0, 1, 0), -1, sets)
        self.check_refused(both(1, 1, 0, 0), -1, sets)
        self.check_refused(both(3, 1, 2, 0), -1, sets)
        self.check_refused(both(3, 3, 3, 0), -1, sets)
        self.assertEqual(ask(both(0, 1, 2, 0), states(0)), [[-1], [-1]])

    def test_an_empty_place_to_be_made(self):
        self.assertEqual(ask(put(1, *ONES), both(3, 1, 1, 4), states(3), states(0)), [[0], [0], [8], [-1]])

    def test_other_bases(self):
        sets = [put(0, *ONES), put(1, *constant(2, 1)), put(2, *constant(5, 1))]
        self.check_refused(both(2, 0, 1, 0), -1, sets)
        self.check_refused(both(1, 1, 0, 0), -1, sets)
        self.check_refused(both(3, 1, 2, 2), -1, sets)

    def test_more_than_64_states(self):
        sets = full() + [put(2, *telling(NOT_0, [0, 64])), put(3, *constant(3, 200))]
        for d in range(4):
            self.check_refused(both(d, 0, 2, 0), -2, sets)
            self.check_refused(both(d, 2, 0, 0), -2, sets)

    def test_the_first_refusal(self):
        sets = full() + [put(2, *telling(NOT_0, [0, 64])), put(3, *constant(2, 200))]
        self.check_refused(both(3, 0, 2, 5), -1, sets)
        self.check_refused(both(3, 0, 2, -1), -1, sets)
        self.check_refused(both(4, 0, 2, 0), -1, sets)
        self.check_refused(both(1, 0, 3, 0), -1, sets)


class WhatTheOthersAnswer(unittest.TestCase):
    """The calls on places that both has made."""

    def test_term_states_and_kernel(self):
        # The first digit and the last one of numbers in base 3; 0 has the pair 0, 0.
        told = ask(put(0, *telling(first_digit(3), [0, 10, 20])), put(1, *last_digit(3)), both(2, 0, 1, 0),
                   *[term(2, m) for m in (0, 1, 2, 3, 5, 8, 9, 26, 2 * 3 ** 30 + 1)])
        self.assertEqual([part[0] for part in told[3:]], [0, 11, 22, 10, 12, 22, 10, 22, 21])
        # 0, and each pair of a first digit but 0 and a last one.
        self.assertEqual(ask(put(0, *telling(first_digit(3), [0, 10, 20])), put(1, *last_digit(3)), both(2, 0, 1, 0),
                             states(2))[3:], [[7]])

    def test_kernel(self):
        pairs = ((first_digit(3), last_digit(3)), (digit_sum(3, 3), length(3, 2)), (remainder(3, 4), digit_sum(3, 2)))
        for first, second in pairs:
            for what in WHATS:
                wanted = plain_kernel(plain_both(first, second, what), 27)
                told = ask(put(0, *first), put(1, *second), both(2, 0, 1, what), kernel(2))
                self.assertEqual(told[2:], [[0], [wanted]], (first, second, what))

    def test_kernel_by_orders(self):
        told = ask(put(0, *permuting([0, 1, 2, 3, 4, 4])), put(1, *permuting([0, 1, 2, 2, 2, 2])), both(0, 0, 1, 4),
                   kernel(0), put(2, *permuting([0, 1, 2, 3, 4, 5])), both(2, 2, 2, 0), kernel(2),
                   put(3, *permuting([0, 1, 2, 3, 4, 5, 6])), both(3, 3, 3, 1), kernel(3))
        self.assertEqual(told[2:], [[0], [360], [0], [0], [720], [0], [0], [-2]])

    def test_count(self):
        terms = [plain_term(ONES, m) * plain_term(TWOS, m) for m in range(3000)]
        told = ask(put(0, *ONES), put(1, *TWOS), both(2, 0, 1, 1), *[count(2, x, 3000) for x in range(20)],
                   count(2, 6, 500), count(2, 0, 1), count(2, 256, 9), count(2, 0, 2 ** 63))
        self.assertEqual([part[0] for part in told[3:23]], [terms.count(x) for x in range(20)])
        self.assertEqual(told[23:], [[terms[:500].count(6)], [1], [-1], [-1]])

    def test_differ(self):
        # Seven ones and seven twos: the least and the greatest are alike till then.
        told = ask(put(0, *telling(ONES, [0] * 7 + [1])), put(1, *telling(TWOS, [0] * 7 + [1])), both(2, 0, 1, 3),
                   put(3, *constant(3, 0)), differ(2, 3, 4200), differ(2, 3, 8), both(3, 0, 1, 4),
                   differ(2, 3, 9), differ(3, 2, 9), differ(2, 2, 9))
        self.assertEqual(told[4:], [[14] + [1] * 7 + [2] * 7, [14] + [1] * 7 + [2], [0],
                                    [7] + [1] * 7, [7] + [1] * 7, [-2]])

    def test_find(self):
        told = ask(put(0, *telling(ONES, [0] * 7 + [1])), put(1, *telling(TWOS, [0] * 7 + [1])), both(2, 0, 1, 3),
                   find(2, [1], 4200), find(2, [0, 1, 0], 3), find(2, [1, 1], 4200), find(2, [2], 1), find(2, [], 1))
        # Of two numbers next to each other just one has an odd number of ones, in base 3.
        self.assertEqual(told[3:], [[14] + [1] * 7 + [2] * 7, [14, 1, 1, 1], [-2], [-2], [-1]])

    def test_both_upon_both(self):
        told = ask(put(0, *digit_counter(4, 1, 4)), put(1, *digit_counter(4, 2, 4)), both(0, 0, 1, 0),
                   put(1, *digit_counter(4, 3, 4)), both(2, 0, 1, 0), both(2, 2, 2, 1), states(2),
                   *[term(2, m) for m in range(64)])
        self.assertEqual(told[:6], [[0]] * 6)
        wanted = []
        for m in range(64):
            digits = [m // 16, m // 4 % 4, m % 4]
            wanted.append([(digits.count(1) + digits.count(2) + digits.count(3)) ** 2])
        self.assertEqual(told[7:], wanted)
        self.assertEqual(told[6], [64])

    def test_the_same_sequence_made_otherwise(self):
        # x + x + x, and x by 3; the sum of digits modulo 2 of 2 numbers, and whether they're the same.
        told = ask(put(0, *digit_sum(5, 6)), both(1, 0, 0, 0), both(1, 1, 0, 0), put(2, *constant(5, 3)),
                   both(2, 0, 2, 1), differ(1, 2, 9), states(1), states(2), term(1, 4), term(2, 4))
        self.assertEqual(told[1:], [[0], [0], [0], [0], [-2], [6], [6], [12], [12]])

    def test_over_begin(self):
        told = ask(put(0, *ONES), both(1, 0, 0, 0), [0], states(1), both(1, 0, 0, 0), put(0, *ONES), both(1, 0, 0, 0),
                   states(1))
        self.assertEqual(told[1:], [[0], [0], [-1], [-1], [0], [0], [8]])


if __name__ == "__main__":
    unittest.main()
