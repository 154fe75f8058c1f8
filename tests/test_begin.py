"""Promise 1: begin."""

import unittest

from digitseq.places import answers
from tests.calls import ask, begin, constant, kernel, put, states, term


class Begin(unittest.TestCase):
    def test_answers_0(self):
        self.assertEqual(answers([0]), [1, 0])

    def test_all_places_are_empty_at_first(self):
        for i in range(4):
            self.assertEqual(ask(term(i, 0), states(i), kernel(i)), [[-1], [-1], [-1]])

    def test_empties_all_places_again(self):
        sets = [put(i, *constant(2, i)) for i in range(4)]
        terms = [term(i, 5) for i in range(4)]
        told = ask(*sets, *terms, begin(), *terms)
        self.assertEqual(told[4:8], [[0], [1], [2], [3]])
        self.assertEqual(told[8:], [[0], [-1], [-1], [-1], [-1]])

    def test_places_can_be_set_behind_it_again(self):
        told = ask(put(1, *constant(2, 9)), begin(), put(1, *constant(3, 8)), term(1, 0), term(0, 0))
        self.assertEqual(told, [[0], [0], [0], [8], [-1]])

    def test_again_and_again(self):
        self.assertEqual(ask(begin(), begin()), [[0], [0]])


if __name__ == "__main__":
    unittest.main()
