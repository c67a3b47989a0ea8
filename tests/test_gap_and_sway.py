"""Promise 4: gap and sway, how they are told and how refused."""

import random
import unittest

from tests.helper import GAP, SWAY, ask, expected_gap, expected_sway, fraction_text, text_of, told

# At 2 there are 10, 4 of them of group 1, and it ends for one of group 0.
# At 4 there are 8, 3 of them of group 1, and it ends for three, one of them of group 1; one of group 0 is lost.
# At 9 there are 3, 2 of them of group 1, and it ends for one of group 0. At 10 there are 2, all of group 1.
MIXED_PEOPLE = (
    (0, 2, 1), (1, 4, 1), (0, 4, 1), (0, 4, 0), (1, 3, 0),
    (0, 4, 1), (0, 9, 1), (0, 5, 0), (1, 10, 1), (1, 12, 0),
)
MIXED = text_of(MIXED_PEOPLE)

MOST = 4096


def gap(text, most=MOST):
    return ask(text, [GAP, most])[0]


def sway(text, most=MOST):
    return ask(text, [SWAY, most])[0]


def swapped(people):
    return [(1 - group, time, ended) for group, time, ended in people]


class Gap(unittest.TestCase):
    def test_below_0(self):
        # -4/10; 1 - 9/8; -2/3; 1 - 2/2.
        self.assertEqual(gap(MIXED), told("-143/120"))
        self.assertEqual(gap("0 1 1\n1 2 1\n"), told("-1/2"))

    def test_above_0(self):
        # What one group has above, the other has below.
        self.assertEqual(gap(text_of(swapped(MIXED_PEOPLE))), told("143/120"))
        self.assertEqual(gap("1 1 1\n0 2 1\n"), told("1/2"))

    def test_0(self):
        self.assertEqual(gap("0 5 1\n1 5 1\n"), told("0/1"))
        self.assertEqual(gap("0 5 1\n1 5 1\n0 9 1\n1 9 1\n"), told("0/1"))

    def test_above_and_below_together(self):
        # 1 - 2/4; -1/2.
        self.assertEqual(gap("1 1 1\n0 2 0\n1 3 0\n0 3 1\n"), told("0/1"))
        # 1 - 2/4; -1/3; -1/2; 1 - 1/1.
        self.assertEqual(gap("1 1 1\n0 2 1\n0 3 1\n1 4 1\n"), told("-1/3"))
        # 1 - 2/3; -1/2; 1 - 1/1.
        self.assertEqual(gap("1 1 1\n0 2 1\n1 4 1\n"), told("-1/6"))
        # 1 - 2/4; 1 - 1 * 2/3; 0.
        self.assertEqual(gap("1 1 1\n0 2 1\n1 2 1\n0 3 1\n"), told("5/6"))
        # 1 - 3/6; -2/5; -2/4; 1 - 2/3; -1/2; 1 - 1/1.
        self.assertEqual(gap("1 1 1\n0 2 1\n0 3 1\n1 4 1\n0 5 1\n1 6 1\n"), told("-17/30"))

    def test_whole(self):
        # -1/2; -1/2; 0.
        self.assertEqual(gap("0 2 1\n0 4 1\n1 3 0\n1 5 1\n"), told("-1/1"))
        self.assertEqual(gap("1 2 1\n1 4 1\n0 3 0\n0 5 1\n"), told("1/1"))

    def test_nobody_at_all(self):
        self.assertEqual(gap(""), told("0/1"))

    def test_nobody_in_group_0(self):
        self.assertEqual(gap("1 3 1\n"), told("0/1"))
        self.assertEqual(gap("1 3 1\n1 4 1\n1 4 0\n1 7 1\n"), told("0/1"))

    def test_nobody_in_group_1(self):
        self.assertEqual(gap("0 3 1\n"), told("0/1"))
        self.assertEqual(gap("0 3 1\n0 4 1\n0 4 0\n0 7 1\n"), told("0/1"))

    def test_nobody_for_whom_it_ends(self):
        self.assertEqual(gap("0 3 0\n"), told("0/1"))
        self.assertEqual(gap("0 3 0\n1 3 0\n1 0 0\n0 1000000 0\n"), told("0/1"))

    def test_an_end_of_several_of_both_groups(self):
        # It ends for 2 of 3 of group 1 and for 1 of 4 of group 0: 2 - 3 * 3/7.
        self.assertEqual(gap("1 5 1\n1 5 1\n1 8 0\n0 5 1\n0 8 0\n0 9 0\n0 9 0\n"), told("5/7"))
        # It ends for 1 of 3 of group 1 and for 3 of 4 of group 0: 1 - 3 * 4/7.
        self.assertEqual(gap("1 5 1\n1 8 0\n1 8 0\n0 5 1\n0 5 1\n0 5 1\n0 9 0\n"), told("-5/7"))

    def test_somebody_lost_at_an_end_of_another(self):
        # Who is lost at 5 is there at 5, not behind it.
        self.assertEqual(gap("1 5 0\n0 5 1\n"), told("-1/2"))
        self.assertEqual(gap("1 4 0\n0 5 1\n"), told("0/1"))
        self.assertEqual(gap("1 5 1\n0 5 0\n"), told("1/2"))
        self.assertEqual(gap("1 5 1\n0 4 0\n"), told("0/1"))
        # 1 - 2/4; nothing at 6, since nobody of group 1 is there any more.
        self.assertEqual(gap("1 5 1\n1 5 0\n0 5 0\n0 6 1\n"), told("1/2"))

    def test_the_first_and_the_last_time(self):
        self.assertEqual(gap("1 0 1\n0 0 0\n0 0 0\n"), told("2/3"))
        self.assertEqual(gap("1 1000000 0\n0 1000000 1\n1 1000000 0\n"), told("-2/3"))

    def test_the_longest(self):
        people = [(int(place < 10), place + 1, 1) for place in range(20)]
        self.assertEqual(gap(text_of(people)), told(fraction_text(expected_gap(people))))
        self.assertEqual(gap(text_of(swapped(people))), told(fraction_text(-expected_gap(people))))


class Sway(unittest.TestCase):
    def test_ordinary(self):
        # 4*6*1*9/(100*9); 3*5*3*5/(64*7); 2*1*1*2/(9*2); 2*0.
        self.assertEqual(sway(MIXED), told("97217/100800"))
        self.assertEqual(sway(text_of(swapped(MIXED_PEOPLE))), told("97217/100800"))
        # 1*2*1*2/(9*2).
        self.assertEqual(sway("0 3 1\n0 4 0\n1 5 0\n"), told("2/9"))

    def test_an_end_of_several(self):
        # 3*4*3*4/(49*6).
        self.assertEqual(sway("1 5 1\n1 5 1\n1 8 0\n0 5 1\n0 8 0\n0 9 0\n0 9 0\n"), told("24/49"))

    def test_it_ends_for_all_at_once(self):
        self.assertEqual(sway("0 5 1\n1 5 1\n"), told("0/1"))
        self.assertEqual(sway("0 5 1\n0 5 1\n1 5 1\n1 5 1\n"), told("0/1"))

    def test_just_one_is_there(self):
        for text in ("0 5 1\n", "1 5 1\n", "0 4 0\n1 5 1\n", "1 4 0\n0 5 1\n", "1 0 1\n", "0 1000000 1\n"):
            with self.subTest(text=text):
                self.assertEqual(sway(text), told("0/1"))

    def test_just_one_is_there_beside_other_ends(self):
        # 1*1*1*1/(4*1), and nothing for the last.
        self.assertEqual(sway("0 3 1\n1 5 1\n"), told("1/4"))
        self.assertEqual(sway("1 3 1\n0 5 1\n"), told("1/4"))
        # 2*2*1*3/(16*3); 1*1*1*1/(4*1); nothing for the last.
        self.assertEqual(sway("0 2 1\n0 4 1\n1 3 0\n1 5 1\n"), told("1/2"))

    def test_somebody_lost_at_an_end_of_another(self):
        self.assertEqual(sway("1 5 0\n0 5 1\n"), told("1/4"))
        self.assertEqual(sway("1 4 0\n0 5 1\n"), told("0/1"))
        self.assertEqual(sway("1 5 0\n0 5 1\n0 6 0\n"), told("2/9"))

    def test_nobody_in_one_of_the_groups(self):
        for group in (0, 1):
            self.assertEqual(sway("%d 3 1\n%d 4 1\n%d 7 0\n" % (group, group, group)), told("0/1"))

    def test_nobody_for_whom_it_ends(self):
        self.assertEqual(sway("0 3 0\n1 3 0\n1 4 0\n"), told("0/1"))

    def test_nobody_at_all(self):
        self.assertEqual(sway(""), told("0/1"))

    def test_more_than_1(self):
        people = [(place % 2, place + 1, 1) for place in range(20)]
        self.assertEqual(sway(text_of(people)), told(fraction_text(expected_sway(people))))
        self.assertGreater(expected_sway(people), 1)


class AgainstAnotherWay(unittest.TestCase):
    def test_many_texts(self):
        source = random.Random(5)
        for size in range(21):
            for latest in (1, 3, 12, 1000000):
                for ending in (1, 4):
                    people = [(source.randint(0, 1), source.randint(0, latest), source.randint(0, ending) and 1)
                              for _ in range(size)]
                    wanted = [told(fraction_text(expected_gap(people))), told(fraction_text(expected_sway(people)))]
                    self.assertEqual(ask(text_of(people), [GAP, MOST], [SWAY, MOST]), wanted, people)

    def test_the_order_of_the_lines_is_nothing(self):
        turned = text_of(MIXED_PEOPLE[::-1])
        self.assertEqual(gap(turned), gap(MIXED))
        self.assertEqual(sway(turned), sway(MIXED))


class Refusals(unittest.TestCase):
    def test_just_as_long_as_most(self):
        for call, text in ((gap, "-143/120"), (sway, "97217/100800")):
            self.assertEqual(call(MIXED, len(text)), told(text))
            self.assertEqual(call(MIXED, len(text) + 1), told(text))
            self.assertEqual(call(MIXED, len(text) - 1), [-1])
            self.assertEqual(call(MIXED, 1), [-1])
            self.assertEqual(call(MIXED, 0), [-1])
            self.assertEqual(call(MIXED, 4095), told(text))
            self.assertEqual(call(MIXED, 4096), told(text))

    def test_the_shortest_texts(self):
        for call in (gap, sway):
            self.assertEqual(call("", 3), told("0/1"))
            self.assertEqual(call("", 2), [-1])
            self.assertEqual(call("", 0), [-1])

    def test_out_of_range(self):
        # Those below 0 are shorter than every text too: -2 stands before -1.
        for call in (gap, sway):
            for most in (-2147483648, -9, -2, -1, 4097, 8192, 2147483647):
                self.assertEqual(call(MIXED, most), [-2])
                self.assertEqual(call("", most), [-2])


if __name__ == "__main__":
    unittest.main()
