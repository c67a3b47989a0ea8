"""Promise 5: pairs."""

import random
import unittest
from itertools import product

from tests.helper import PAIRS, ask, expected_pairs, text_of


def pairs(text):
    return ask(text, [PAIRS])[0]


class Pairs(unittest.TestCase):
    def test_longer_same_and_shorter(self):
        self.assertEqual(pairs("1 6 1\n0 5 1\n"), [2])
        self.assertEqual(pairs("1 5 1\n0 5 1\n"), [1])
        self.assertEqual(pairs("1 4 1\n0 5 1\n"), [0])

    def test_together(self):
        # Of group 1, 3 has 2 + 0, 5 has 2 + 2.
        self.assertEqual(pairs("0 2 1\n0 4 1\n1 3 0\n1 5 1\n"), [6])
        # Of group 1, 4 has 2 + 1 + 1 + 1, 3 has 2, 10 and 12 have 12 each.
        self.assertEqual(pairs("0 2 1\n1 4 1\n0 4 1\n0 4 0\n1 3 0\n0 4 1\n0 9 1\n0 5 0\n1 10 1\n1 12 0\n"), [31])

    def test_far_from_each_other(self):
        self.assertEqual(pairs("1 1000000 1\n0 0 1\n"), [2])
        self.assertEqual(pairs("1 0 1\n0 1000000 1\n"), [0])
        self.assertEqual(pairs("1 1000000 1\n0 1000000 1\n1 0 0\n0 0 0\n"), [4])

    def test_the_most(self):
        self.assertEqual(pairs("1 7 1\n" * 10 + "0 6 1\n" * 10), [200])
        self.assertEqual(pairs("1 7 1\n" * 10 + "0 7 1\n" * 10), [100])
        self.assertEqual(pairs("1 7 1\n" * 10 + "0 8 1\n" * 10), [0])
        self.assertEqual(pairs("1 7 1\n" + "0 6 1\n" * 19), [38])

    def test_nobody_in_one_of_the_groups(self):
        self.assertEqual(pairs("0 5 1\n0 6 1\n0 6 0\n"), [0])
        self.assertEqual(pairs("1 5 1\n1 6 1\n1 6 0\n"), [0])

    def test_nobody_at_all(self):
        self.assertEqual(pairs(""), [0])

    def test_the_marks_make_no_difference(self):
        for marks in product((0, 1), repeat=5):
            people = [(group, time, mark) for (group, time), mark
                      in zip(((0, 2), (1, 3), (0, 3), (1, 7), (0, 9)), marks)]
            self.assertEqual(pairs(text_of(people)), [3 + 4], marks)

    def test_against_another_way(self):
        source = random.Random(7)
        for size in range(21):
            for latest in (1, 6, 1000000):
                people = [(source.randint(0, 1), source.randint(0, latest), source.randint(0, 1))
                          for _ in range(size)]
                self.assertEqual(pairs(text_of(people)), [expected_pairs(people)], people)
                self.assertEqual(pairs(text_of(people[::-1])), [expected_pairs(people)], people)


if __name__ == "__main__":
    unittest.main()
