"""Promise 2: set."""

import unittest

from digitseq.machine import read_machine
from tests.calls import LEAST, MOST, OUTSIDE_PLACES
from tests.calls import ask, ask_one, constant, digit_sum, machine_of, put, states, term

# Tells 1 if the number has a digit 1 in base 2.
HAS_ONE = [0, 1, 7, 1, 1, 8]


class Taken(unittest.TestCase):
    def test_the_table_is_read_state_by_state(self):
        # Each state has its own ways by 0, 1 and 2, and what it tells stands last.
        machine = machine_of(3, [[0, 1, 2, 10], [2, 0, 1, 11], [1, 1, 0, 12]])
        told = ask_one(machine, *[term(0, m) for m in range(9)])
        self.assertEqual(told, [10, 11, 12, 12, 10, 11, 11, 11, 10])

    def test_each_place_has_its_own(self):
        sets = [put(i, *constant(i + 2, 200 + i)) for i in (3, 1, 0, 2)]
        told = ask(*sets, *[term(i, 77) for i in range(4)])
        self.assertEqual(told, [[0]] * 4 + [[200], [201], [202], [203]])

    def test_other_places_stay_empty(self):
        told = ask(put(2, *constant(2, 1)), term(0, 0), term(1, 0), term(2, 0), term(3, 0))
        self.assertEqual(told, [[0], [-1], [-1], [1], [-1]])

    def test_over_a_machine(self):
        told = ask(put(0, 2, 2, HAS_ONE), term(0, 1), put(0, *constant(10, 3)), term(0, 1), states(0))
        self.assertEqual(told, [[0], [8], [0], [3], [1]])

    def test_each_base_and_number_of_states(self):
        for k in range(2, 11):
            for n in range(1, 9):
                told = ask(put(3, *digit_sum(k, n)), term(3, k - 1))
                self.assertEqual(told, [[0], [(k - 1) % n]], (k, n))

    def test_least_and_greatest_that_is_told(self):
        self.assertEqual(ask_one(machine_of(2, [[0, 1, 0], [1, 1, 255]]), term(0, 0), term(0, 1)), [0, 255])

    def test_as_many_states_as_there_can_be(self):
        self.assertEqual(ask(put(0, *digit_sum(10, 64)), states(0)), [[0], [64]])
        self.assertIsNotNone(read_machine(2, 64, [0, 0, 5] * 64))
        self.assertIsNone(read_machine(2, 65, [0, 0, 5] * 65))


class Refused(unittest.TestCase):
    def check_refused(self, i, k, n, table):
        """Refused at an empty place and over a machine; and the places stay as they were."""
        self.assertEqual(ask(put(i, k, n, table), *[term(j, 1) for j in range(4)]), [[-1]] * 5)
        sets = [put(j, 2, 2, HAS_ONE[:5] + [90 + j]) for j in range(4)]
        looks = [term(j, m) for j in range(4) for m in (0, 1)] + [states(j) for j in range(4)]
        told = ask(*sets, put(i, k, n, table), *looks)
        self.assertEqual(told[4], [-1], (i, k, n, table))
        self.assertEqual(told[5:13], [[7], [90], [7], [91], [7], [92], [7], [93]])
        self.assertEqual(told[13:], [[2]] * 4)

    def test_place(self):
        for i in OUTSIDE_PLACES:
            self.check_refused(i, 2, 2, HAS_ONE)

    def test_base(self):
        self.check_refused(0, 1, 1, [0, 5])
        self.check_refused(0, 1, 2, [0, 5, 0, 6])
        self.check_refused(0, 11, 1, [0] * 11 + [5])
        self.check_refused(0, 0, 1, [0])
        self.check_refused(0, 0, 3, [0, 0, 0])
        self.check_refused(0, -1, 1, [])
        self.check_refused(0, -1, 8, [])
        self.check_refused(0, -2, -2, [0, 0])
        self.check_refused(0, LEAST, 1, [0, 0, 5])
        self.check_refused(0, MOST, 1, [0, 0, 5])

    def test_number_of_states(self):
        self.check_refused(0, 2, 0, [])
        self.check_refused(0, 10, 0, [])
        self.check_refused(0, 2, 65, [0, 0, 5] * 65)
        self.check_refused(0, 9, 70, [0] * 700)
        self.check_refused(0, 2, 0, [0, 0, 5])
        self.check_refused(0, 2, -1, [])
        self.check_refused(0, 2, -1, [0, 0, 5])
        self.check_refused(0, 2, LEAST, [0, 0, 5])
        self.check_refused(0, 2, MOST, [0, 0, 5])

    def test_length(self):
        self.check_refused(0, 2, 1, [])
        self.check_refused(0, 2, 2, HAS_ONE[:5])
        self.check_refused(0, 2, 2, HAS_ONE + [0])
        self.check_refused(0, 2, 2, HAS_ONE + [0, 0, 5])
        self.check_refused(0, 2, 1, HAS_ONE)
        self.check_refused(0, 2, 3, HAS_ONE)
        self.check_refused(0, 3, 2, HAS_ONE)
        self.check_refused(0, 2, 8, [0] * 16)
        self.check_refused(0, 2, 8, [0] * 704)

    def test_a_state_to_go_to_that_is_none(self):
        self.check_refused(0, 2, 1, [0, 1, 5])
        self.check_refused(0, 2, 2, [0, 2, 7, 1, 1, 8])
        self.check_refused(0, 2, 2, [0, 1, 7, 2, 1, 8])
        self.check_refused(0, 2, 2, [0, 1, 7, 1, 255, 8])
        # No number comes to state 1, but its ways are looked at all the same.
        self.check_refused(0, 2, 2, [0, 0, 7, 0, 2, 8])
        self.check_refused(0, 10, 8, [0] * 86 + [8, 0])

    def test_state_0_not_to_itself_by_0(self):
        self.check_refused(0, 2, 2, [1, 0, 7, 1, 1, 8])
        self.check_refused(0, 2, 2, [1, 1, 7, 0, 0, 8])
        # Nor where the two states tell the same.
        self.check_refused(0, 2, 2, [1, 1, 7, 1, 1, 7])
        self.check_refused(0, 3, 8, [7, 0, 0, 0] + [0] * 28)


if __name__ == "__main__":
    unittest.main()
