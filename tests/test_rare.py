"""Promise 6: rare, by each of its measures."""

import random
import unittest
from fractions import Fraction
from itertools import combinations

from tests.helper import RARE, ask, expected_gap, expected_rare, fraction_text, text_of, told

TIMES = 0
PAIRS_TOGETHER = 1
GAP_MEASURE = 2
MEASURES = (TIMES, PAIRS_TOGETHER, GAP_MEASURE)

MOST = 4096

FOUR = "0 2 1\n0 4 1\n1 3 0\n1 5 1\n"


def rare(text, k, most=MOST):
    return ask(text, [RARE, k, most])[0]


def masks_of_twenty(people):
    """All ways to choose 10 of 20, each as a number whose bits tell who is chosen."""
    return [sum(1 << place for place in chosen) for chosen in combinations(range(len(people)), 10)]


def mask_of(people, holds):
    return sum(1 << place for place, person in enumerate(people) if holds(*person))


def share_reaching(measure, masks, least_mask):
    least = measure(least_mask)
    return Fraction(sum(1 for mask in masks if measure(mask) >= least), len(masks))


class ByHand(unittest.TestCase):
    def check(self, text, times, pairs, gap):
        for k, fraction in ((TIMES, times), (PAIRS_TOGETHER, pairs), (GAP_MEASURE, gap)):
            with self.subTest(text=text, k=k):
                self.assertEqual(rare(text, k), told(fraction))

    def test_ordinary(self):
        # The times of two of 2, 3, 4, 5 are 5, 6, 7, 7, 8, 9 together; it is 8.
        # The pairs are 0, 2, 4, 4, 6, 8; it is 6. The gaps are 1, 1/2, 0, 0, -1/2, -1; it is -1.
        self.check(FOUR, "1/3", "1/3", "1/1")

    def test_the_gap_above_0(self):
        # The other way round the gap is 1, and the times are 6 together, the pairs 2.
        self.check("1 2 1\n1 4 1\n0 3 0\n0 5 1\n", "5/6", "5/6", "1/6")

    def test_the_gap_below_0_is_not_taken_as_above(self):
        # Of one chosen, the gaps are 2/3, 1/6, -5/6.
        self.check("1 1 1\n0 2 1\n0 3 1\n", "1/1", "1/1", "1/3")
        self.check("0 1 1\n1 2 1\n0 3 1\n", "2/3", "2/3", "2/3")
        self.check("0 1 1\n0 2 1\n1 3 1\n", "1/3", "1/3", "1/1")

    def test_as_great_counts(self):
        # The one of group 1 is one of two with the longest time.
        self.check("1 5 1\n0 5 1\n0 2 1\n", "2/3", "2/3", "1/1")
        # 2 and 5 are 7 together, as 3 and 4 are; of 6 choices these, 8 and 9 count.
        self.assertEqual(rare("1 2 1\n0 4 1\n0 3 0\n1 5 1\n", TIMES), told("2/3"))
        self.assertEqual(rare("1 2 1\n0 4 1\n0 3 0\n1 5 1\n", PAIRS_TOGETHER), told("2/3"))
        self.assertEqual(rare("1 2 1\n0 4 1\n0 3 0\n1 5 1\n", GAP_MEASURE), told("2/3"))

    def test_each_choice_of_people_counts_by_itself(self):
        # Three with the same line and one with a shorter time: of 6 choices of two, 3 have both of the longer time.
        self.check("1 5 1\n1 5 1\n0 5 1\n0 2 1\n", "1/2", "1/2", "1/1")
        self.check("1 5 1\n0 5 1\n0 5 1\n1 2 1\n", "1/1", "1/1", "1/2")

    def test_all_the_same(self):
        self.check("1 5 1\n" * 3 + "0 5 1\n" * 4, "1/1", "1/1", "1/1")
        self.check("1 0 0\n" + "0 0 0\n" * 2, "1/1", "1/1", "1/1")

    def test_the_same_time_with_another_mark(self):
        # The gap is 1/2 if it ends for the one of group 1, else -1/2.
        self.check("1 5 1\n0 5 0\n", "1/1", "1/1", "1/2")
        self.check("1 5 0\n0 5 1\n", "1/1", "1/1", "1/1")

    def test_times_and_pairs_part(self):
        # Of two of 1, 2, 3, 100: 1 and 100 are 101 together, more than 2 and 3, yet as many pairs.
        text = "1 1 1\n1 100 1\n0 2 1\n0 3 1\n"
        self.assertEqual(rare(text, TIMES), told("1/2"))
        self.assertEqual(rare(text, PAIRS_TOGETHER), told("2/3"))

    def test_nobody_for_whom_it_ends(self):
        self.check("1 9 0\n0 5 0\n0 7 0\n", "1/3", "1/3", "1/1")

    def test_nobody_in_group_1(self):
        self.check("0 5 1\n", "1/1", "1/1", "1/1")
        self.check("0 5 1\n0 7 0\n0 7 1\n0 9 1\n", "1/1", "1/1", "1/1")
        self.check("0 5 1\n" * 20, "1/1", "1/1", "1/1")

    def test_everybody_in_group_1(self):
        self.check("1 5 1\n", "1/1", "1/1", "1/1")
        self.check("1 5 1\n1 7 0\n1 7 1\n1 9 1\n", "1/1", "1/1", "1/1")
        self.check("1 5 1\n" * 20, "1/1", "1/1", "1/1")

    def test_nobody_at_all(self):
        self.check("", "1/1", "1/1", "1/1")


class Twenty(unittest.TestCase):
    def test_the_longest_ten(self):
        people = [(int(place >= 10), place * 50000, 1) for place in range(20)]
        for k, fraction in ((TIMES, "1/184756"), (PAIRS_TOGETHER, "1/184756"), (GAP_MEASURE, "1/1")):
            self.assertEqual(rare(text_of(people), k), told(fraction))
            self.assertEqual(rare(text_of(people[::-1]), k), told(fraction))

    def test_the_shortest_ten(self):
        people = [(int(place < 10), place * 50000, 1) for place in range(20)]
        for k, fraction in ((TIMES, "1/1"), (PAIRS_TOGETHER, "1/1"), (GAP_MEASURE, "1/184756")):
            self.assertEqual(rare(text_of(people), k), told(fraction))
            self.assertEqual(rare(text_of(people[::-1]), k), told(fraction))

    def test_two_lines_ten_times_each(self):
        text = "1 7 1\n" * 10 + "0 6 1\n" * 10
        self.assertEqual([rare(text, k) for k in MEASURES], [told("1/184756"), told("1/184756"), told("1/1")])

    def test_one_of_twenty(self):
        for longest in (0, 9, 10, 19):
            people = [(int(place == longest), 5 + (place == longest), 1) for place in range(20)]
            self.assertEqual([rare(text_of(people), k) for k in MEASURES], [told("1/20"), told("1/20"), told("1/1")])

    def test_nineteen_of_twenty(self):
        for left_out in (0, 9, 10, 19):
            people = [(int(place != left_out), 5 - (place == left_out), 1) for place in range(20)]
            self.assertEqual([rare(text_of(people), k) for k in MEASURES], [told("1/20"), told("1/20"), told("1/1")])

    def test_ten_of_twenty_every_choice_gone_through(self):
        source = random.Random(10)
        people = [(place % 2, source.randint(1, 12), int(place % 5 != 3)) for place in range(20)]
        masks = masks_of_twenty(people)
        self.assertEqual(len(masks), 184756)
        now = mask_of(people, lambda group, time, ended: group == 1)
        moments = sorted({time for _, time, _ in people})

        beyond = [(mask_of(people, lambda g, t, e, m=moment: t > m), mask_of(people, lambda g, t, e, m=moment: t == m))
                  for moment in moments]

        def times(mask):
            return sum(moment * (mask & at).bit_count() for moment, (_, at) in zip(moments, beyond))

        def pairs(mask):
            rest = ~mask
            return sum((2 * (mask & later).bit_count() + (mask & at).bit_count()) * (rest & at).bit_count()
                       for later, at in beyond)

        ends = sorted({time for _, time, ended in people if ended})
        rows = [(mask_of(people, lambda g, t, e, m=end: t >= m), mask_of(people, lambda g, t, e, m=end: t == m and e))
                for end in ends]
        whole = 1
        for there, _ in rows:
            whole *= there.bit_count()
        rows = [(there, ended, whole // there.bit_count() * ended.bit_count()) for there, ended in rows]

        def gap(mask):
            return sum((mask & ended).bit_count() * whole - (mask & there).bit_count() * part
                       for there, ended, part in rows)

        self.assertEqual(Fraction(gap(now), whole), expected_gap(people))
        for k, measure in ((TIMES, times), (PAIRS_TOGETHER, pairs), (GAP_MEASURE, gap)):
            wanted = share_reaching(measure, masks, now)
            self.assertTrue(0 < wanted < 1)
            self.assertEqual(rare(text_of(people), k), told(fraction_text(wanted)))


class AgainstAnotherWay(unittest.TestCase):
    def test_many_texts(self):
        source = random.Random(8)
        signs = set()
        for size in range(9):
            for latest in (1, 3, 9, 1000000):
                for ending in (1, 4):
                    people = [(source.randint(0, 1), source.randint(0, latest), source.randint(0, ending) and 1)
                              for _ in range(size)]
                    wanted = [told(fraction_text(expected_rare(people, k))) for k in MEASURES]
                    self.assertEqual(ask(text_of(people), *[[RARE, k, MOST] for k in MEASURES]), wanted, people)
                    gap = expected_gap(people)
                    signs.add((gap > 0) - (gap < 0))
        self.assertEqual(signs, {-1, 0, 1})

    def test_every_way_to_group_five(self):
        lives = ((2, 1), (2, 0), (3, 1), (3, 1), (6, 0))
        for made in range(32):
            people = [(made >> place & 1, *life) for place, life in enumerate(lives)]
            wanted = [told(fraction_text(expected_rare(people, k))) for k in MEASURES]
            self.assertEqual(ask(text_of(people), *[[RARE, k, MOST] for k in MEASURES]), wanted, people)


class Refusals(unittest.TestCase):
    def test_just_as_long_as_most(self):
        text = text_of([(int(place >= 10), place, 1) for place in range(20)])
        for k, fraction in ((TIMES, "1/184756"), (PAIRS_TOGETHER, "1/184756"), (GAP_MEASURE, "1/1")):
            self.assertEqual(rare(text, k, len(fraction)), told(fraction))
            self.assertEqual(rare(text, k, len(fraction) + 1), told(fraction))
            self.assertEqual(rare(text, k, len(fraction) - 1), [-1])
            self.assertEqual(rare(text, k, 1), [-1])
            self.assertEqual(rare(text, k, 0), [-1])
            self.assertEqual(rare(text, k, 4095), told(fraction))
            self.assertEqual(rare(text, k, 4096), told(fraction))

    def test_the_shortest_text(self):
        for k in MEASURES:
            self.assertEqual(rare("", k, 3), told("1/1"))
            self.assertEqual(rare("", k, 2), [-1])
            self.assertEqual(rare("", k, 0), [-1])

    def test_most_out_of_range(self):
        for k in MEASURES:
            for most in (-2147483648, -9, -2, -1, 4097, 8192, 2147483647):
                self.assertEqual(rare(FOUR, k, most), [-2])
                self.assertEqual(rare("", k, most), [-2])

    def test_k_out_of_range(self):
        for k in (-2147483648, -3, -2, -1, 3, 4, 8, 2147483647):
            self.assertEqual(rare(FOUR, k), [-2])
            self.assertEqual(rare("", k), [-2])

    def test_out_of_range_stands_before_too_long(self):
        for k in (-2147483648, -1, 3, 2147483647):
            for most in (-1, 0, 2, 4097):
                self.assertEqual(rare(FOUR, k, most), [-2])


if __name__ == "__main__":
    unittest.main()
