"""Promise 3: half."""

import random
import unittest

from tests.helper import HALF, ask, expected_half, text_of


def half(text, group):
    return ask(text, [HALF, group])[0]


class Half(unittest.TestCase):
    def test_each_group_and_all(self):
        # Group 0: 2/3 beyond 3, 1/3 beyond 7. Group 1: 3/4, 1/2 beyond 9. All: 6/7, 5/7, 4/7, 2/5 beyond 9.
        text = "0 3 1\n0 7 1\n0 8 0\n1 4 1\n1 9 1\n1 12 0\n1 20 0\n"
        self.assertEqual(half(text, 0), [7])
        self.assertEqual(half(text, 1), [9])
        self.assertEqual(half(text, 2), [9])

    def test_just_half(self):
        self.assertEqual(half("0 5 1\n0 6 1\n", 0), [5])
        self.assertEqual(half("1 5 1\n1 5 0\n", 1), [5])
        self.assertEqual(half("0 2 1\n1 3 1\n0 4 1\n1 5 1\n", 2), [3])

    def test_just_above_half(self):
        # 11/20 beyond 9, 1/2 beyond 10.
        people = [(0, moment, 1) for moment in range(1, 21)]
        self.assertEqual(half(text_of(people), 0), [10])
        # 10/19 beyond 9, 9/19 beyond 10.
        self.assertEqual(half(text_of(people[:19]), 0), [10])

    def test_below_half_at_once(self):
        self.assertEqual(half("0 5 1\n0 5 1\n0 6 1\n", 0), [5])
        self.assertEqual(half("0 5 1\n", 0), [5])

    def test_the_first_and_the_last_time(self):
        self.assertEqual(half("0 0 1\n", 0), [0])
        self.assertEqual(half("0 0 1\n", 2), [0])
        self.assertEqual(half("1 1000000 1\n", 1), [1000000])

    def test_those_lost_from_sight_are_no_end(self):
        # Half are gone by 2, but the share that lasts falls to 1/2 beyond 7 alone.
        self.assertEqual(half("0 1 0\n0 2 0\n0 7 1\n0 8 0\n", 0), [7])

    def test_none(self):
        self.assertEqual(half("", 0), [-3])
        self.assertEqual(half("", 1), [-3])
        self.assertEqual(half("", 2), [-3])
        self.assertEqual(half("0 5 1\n", 1), [-3])
        self.assertEqual(half("1 5 1\n", 0), [-3])
        self.assertEqual(half("0 5 0\n0 6 0\n", 0), [-3])
        self.assertEqual(half("0 5 1\n0 6 0\n0 7 0\n", 0), [-3])

    def test_out_of_range(self):
        for group in (-2147483648, -3, -1, 3, 4, 2147483647):
            self.assertEqual(half("0 5 1\n1 5 1\n", group), [-2])
            self.assertEqual(half("", group), [-2])

    def test_against_another_way(self):
        source = random.Random(3)
        for size in range(21):
            for latest in (4, 15, 1000000):
                people = [(source.randint(0, 1), source.randint(0, latest), source.randint(0, 2) and 1)
                          for _ in range(size)]
                found = ask(text_of(people), [HALF, 0], [HALF, 1], [HALF, 2])
                self.assertEqual(found, [[expected_half(people, group)] for group in (0, 1, 2)], people)


if __name__ == "__main__":
    unittest.main()
