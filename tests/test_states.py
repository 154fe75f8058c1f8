"""Promise 4: states."""

import unittest

from tests.calls import OUTSIDE_PLACES
from tests.calls import ask, ask_one, constant, digit_sum, first_digit, last_digit
from tests.calls import machine_of, permuting, plain_states, put, remainder, small_machines, states, term


class States(unittest.TestCase):
    def test_one_is_enough_for_a_constant(self):
        for k in range(2, 11):
            self.assertEqual(ask_one(constant(k, 255), states(0)), [1])
        alike = machine_of(3, [[0, 1, 2, 6], [3, 4, 5, 6], [6, 7, 0, 6], [1, 1, 1, 6],
                               [2, 2, 3, 6], [5, 5, 5, 6], [6, 6, 6, 6], [0, 7, 1, 6]])
        self.assertEqual(ask_one(alike, states(0)), [1])

    def test_as_many_as_there_are(self):
        for n in range(1, 9):
            self.assertEqual(ask_one(digit_sum(2, n), states(0)), [n])
        self.assertEqual(ask_one(remainder(10, 7), states(0)), [7])
        self.assertEqual(ask_one(first_digit(8), states(0)), [8])
        self.assertEqual(ask_one(last_digit(8), states(0)), [8])
        self.assertEqual(ask_one(permuting([0, 0, 0, 0, 0, 0, 0, 1]), states(0)), [8])

    def test_states_that_no_number_comes_to(self):
        # State 2 tells something of its own and goes to all, but nothing goes to it;
        # states 3 and 4 go to each other alone.
        machine = machine_of(2, [[0, 1, 0], [1, 0, 1], [0, 3, 2], [4, 4, 3], [3, 3, 4]])
        self.assertEqual(ask_one(machine, states(0)), [2])
        self.assertEqual(ask_one(machine_of(2, [[0, 0, 5], [1, 0, 6]]), states(0)), [1])

    def test_states_that_tell_the_same(self):
        # States 1 and 2 tell the same and go to 3 and 4, which tell the same ever after.
        machine = machine_of(2, [[0, 1, 0], [2, 3, 1], [1, 4, 1], [3, 3, 2], [4, 3, 2]])
        self.assertEqual(ask_one(machine, states(0)), [3])
        # Twice the same two states, with state 0 among them.
        self.assertEqual(ask_one(machine_of(2, [[0, 1, 0], [3, 2, 1], [2, 3, 0], [1, 0, 1]]), states(0)), [2])

    def test_states_told_apart_only_some_digits_on(self):
        # A row of states that tell 0, the last but 1: it takes digits to tell them apart.
        rows = [[0, 1, 0]] + [[0, s + 1, 0] for s in range(1, 7)] + [[7, 7, 1]]
        self.assertEqual(ask_one(machine_of(2, rows), states(0)), [8])
        # Told apart by the highest digit of the base alone.
        rows = [[0] * 9 + [1, 0], [0] * 9 + [2, 0], [0] * 9 + [2, 9]]
        self.assertEqual(ask_one(machine_of(10, rows), states(0)), [3])

    def test_only_what_is_told_tells_states_apart(self):
        # The same ways, other tellings: with 4 and 4 one state is too many.
        self.assertEqual(ask_one(machine_of(2, [[0, 1, 4], [0, 1, 4]]), states(0)), [1])
        self.assertEqual(ask_one(machine_of(2, [[0, 1, 4], [0, 1, 5]]), states(0)), [2])

    def test_the_least_there_can_be(self):
        for machine in small_machines(7):
            self.assertEqual(ask_one(machine, states(0)), [plain_states(machine)], machine)

    def test_the_same_sequence_by_other_machines(self):
        # The sum of digits modulo 3, once more with two states for each remainder.
        twice = machine_of(4, [[(s + d) % 6 for d in range(4)] + [s % 3] for s in range(6)])
        self.assertEqual(ask_one(twice, states(0)), [3])
        self.assertEqual(ask_one(digit_sum(4, 3), states(0)), [3])

    def test_terms_stay_as_they_are(self):
        told = ask_one(digit_sum(2, 3), term(0, 7), states(0), states(0), term(0, 7), term(0, 6))
        self.assertEqual(told, [0, 3, 3, 0, 2])

    def test_outside_the_places(self):
        sets = [put(j, *constant(2, 1)) for j in range(4)]
        for i in OUTSIDE_PLACES:
            self.assertEqual(ask(*sets, states(i))[4:], [[-1]])

    def test_an_empty_place(self):
        self.assertEqual(ask(put(1, *constant(2, 1)), states(0), states(1), states(2)), [[0], [-1], [1], [-1]])


if __name__ == "__main__":
    unittest.main()
