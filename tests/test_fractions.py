"""Promise 2: lasts, spread and come, and how fractions are told and refused."""

import random
import unittest

from tests.helper import COME, FRACTION_CALLS, LASTS, SPREAD, ask, expected, fraction_text, text_of, told

# Group 0: 6 there, ends at 2 (one), 4 (two, and one lost then), 9 (one); one lost at 5.
# Group 1: 4 there, ends at 4 (one), 10 (one); one lost at 3, one lost at 12.
MIXED = text_of((
    (0, 2, 1), (1, 4, 1), (0, 4, 1), (0, 4, 0), (1, 3, 0),
    (0, 4, 1), (0, 9, 1), (0, 5, 0), (1, 10, 1), (1, 12, 0),
))

MOST = 4096


def one(text, call, group, time, most=MOST):
    return ask(text, [call, group, time, most])[0]


class ByHand(unittest.TestCase):
    def check(self, text, call, group, table):
        for time, fraction in table:
            with self.subTest(call=call, group=group, time=time):
                self.assertEqual(one(text, call, group, time), told(fraction))

    def test_lasts_group_0(self):
        self.check(MIXED, LASTS, 0, (
            (0, "1/1"), (1, "1/1"), (2, "5/6"), (3, "5/6"), (4, "1/2"), (5, "1/2"), (8, "1/2"),
            (9, "0/1"), (10, "0/1"), (1000000, "0/1"),
        ))

    def test_lasts_group_1(self):
        self.check(MIXED, LASTS, 1, (
            (0, "1/1"), (3, "1/1"), (4, "2/3"), (9, "2/3"), (10, "1/3"), (12, "1/3"), (1000000, "1/3"),
        ))

    def test_lasts_all(self):
        # There are 10 at 2, 8 at 4, 3 at 9, 2 at 10.
        self.check(MIXED, LASTS, 2, (
            (0, "1/1"), (1, "1/1"), (2, "9/10"), (3, "9/10"), (4, "9/16"), (8, "9/16"),
            (9, "3/8"), (10, "3/16"), (12, "3/16"), (1000000, "3/16"),
        ))

    def test_spread_group_0(self):
        # 25/36 * 1/30; 1/4 * (1/30 + 2/15); nobody lasts.
        self.check(MIXED, SPREAD, 0, (
            (0, "0/1"), (1, "0/1"), (2, "5/216"), (3, "5/216"), (4, "1/24"), (8, "1/24"),
            (9, "0/1"), (1000000, "0/1"),
        ))

    def test_spread_group_1(self):
        # 4/9 * 1/6; 1/9 * (1/6 + 1/2).
        self.check(MIXED, SPREAD, 1, (
            (0, "0/1"), (3, "0/1"), (4, "2/27"), (9, "2/27"), (10, "2/27"), (1000000, "2/27"),
        ))

    def test_spread_all(self):
        # 81/100 * 1/90; 81/256 * (1/90 + 3/40).
        self.check(MIXED, SPREAD, 2, ((1, "0/1"), (2, "9/1000"), (4, "279/10240")))

    def test_come_group_0(self):
        # 1/6; and 2/5; and 1/1.
        self.check(MIXED, COME, 0, (
            (0, "0/1"), (1, "0/1"), (2, "1/6"), (3, "1/6"), (4, "17/30"), (8, "17/30"),
            (9, "47/30"), (1000000, "47/30"),
        ))

    def test_come_group_1(self):
        self.check(MIXED, COME, 1, (
            (0, "0/1"), (3, "0/1"), (4, "1/3"), (9, "1/3"), (10, "5/6"), (1000000, "5/6"),
        ))

    def test_come_all(self):
        # 1/10; and 3/8; and 1/3; and 1/2.
        self.check(MIXED, COME, 2, (
            (1, "0/1"), (2, "1/10"), (4, "19/40"), (9, "97/120"), (10, "157/120"), (1000000, "157/120"),
        ))


class Edges(unittest.TestCase):
    def test_nobody(self):
        for text in ("", "1 3 1", "1 3 1\n"):
            for time in (0, 3, 1000000):
                self.assertEqual(one(text, LASTS, 0, time), told("1/1"))
                self.assertEqual(one(text, SPREAD, 0, time), told("0/1"))
                self.assertEqual(one(text, COME, 0, time), told("0/1"))

    def test_nobody_at_all(self):
        for group in (0, 1, 2):
            self.assertEqual(one("", LASTS, group, 7), told("1/1"))
            self.assertEqual(one("", SPREAD, group, 7), told("0/1"))
            self.assertEqual(one("", COME, group, 7), told("0/1"))

    def test_all_lost_from_sight(self):
        text = "0 0 0\n0 5 0\n1 1000000 0\n"
        for group in (0, 1, 2):
            for time in (0, 5, 1000000):
                self.assertEqual(one(text, LASTS, group, time), told("1/1"))
                self.assertEqual(one(text, SPREAD, group, time), told("0/1"))
                self.assertEqual(one(text, COME, group, time), told("0/1"))

    def test_an_end_at_0(self):
        text = "0 0 1\n0 0 0\n0 1 1\n"
        self.assertEqual(one(text, LASTS, 0, 0), told("2/3"))
        self.assertEqual(one(text, SPREAD, 0, 0), told("2/27"))
        self.assertEqual(one(text, COME, 0, 0), told("1/3"))

    def test_an_end_at_1000000(self):
        text = "1 1000000 1\n1 1000000 0\n"
        for call, ahead, at in ((LASTS, "1/1", "1/2"), (SPREAD, "0/1", "1/8"), (COME, "0/1", "1/2")):
            self.assertEqual(one(text, call, 1, 999999), told(ahead))
            self.assertEqual(one(text, call, 1, 1000000), told(at))

    def test_lost_when_it_ends_for_another_is_there(self):
        together = "0 5 1\n0 5 0\n"
        self.assertEqual(one(together, LASTS, 0, 5), told("1/2"))
        self.assertEqual(one(together, SPREAD, 0, 5), told("1/8"))
        self.assertEqual(one(together, COME, 0, 5), told("1/2"))
        before = "0 5 1\n0 4 0\n"
        self.assertEqual(one(before, LASTS, 0, 5), told("0/1"))
        self.assertEqual(one(before, COME, 0, 5), told("1/1"))

    def test_nobody_lasts(self):
        text = "0 1 1\n0 2 1\n0 3 1\n"
        self.assertEqual(one(text, SPREAD, 0, 2), told("2/27"))
        for time in (3, 4, 1000000):
            self.assertEqual(one(text, LASTS, 0, time), told("0/1"))
            self.assertEqual(one(text, SPREAD, 0, time), told("0/1"))
            self.assertEqual(one(text, COME, 0, time), told("11/6"))

    def test_it_ends_for_all_at_once(self):
        text = "0 1 1\n" * 20
        self.assertEqual(one(text, LASTS, 0, 1), told("0/1"))
        self.assertEqual(one(text, SPREAD, 0, 1), told("0/1"))
        self.assertEqual(one(text, COME, 0, 1), told("1/1"))

    def test_ends_of_the_other_group_count_for_nothing(self):
        text = "0 5 1\n1 5 0\n1 6 0\n"
        self.assertEqual(one(text, LASTS, 1, 6), told("1/1"))
        self.assertEqual(one(text, SPREAD, 1, 6), told("0/1"))
        self.assertEqual(one(text, COME, 1, 6), told("0/1"))

    def test_the_order_of_the_lines_is_nothing(self):
        people = [(0, 9, 1), (0, 2, 1), (0, 11, 0), (0, 5, 1)]
        for call in FRACTION_CALLS:
            for time in (2, 5, 9):
                self.assertEqual(one(text_of(people), call, 0, time),
                                 one(text_of(people[::-1]), call, 0, time))

    def test_come_is_whole(self):
        # 1/3, then 2/3: together one, told with its 1 below.
        text = "0 1 1\n0 1 1\n0 1 0\n0 2 1\n0 2 1\n0 2 0\n"
        self.assertEqual(one(text, COME, 0, 1), told("1/3"))
        self.assertEqual(one(text, COME, 0, 2), told("1/1"))

    def test_long_fractions(self):
        people = [(index % 2, index + 1, 1) for index in range(20)]
        self.assertEqual(one(text_of(people), COME, 2, 1000000), told("55835135/15519504"))
        self.assertEqual(one(text_of(people), LASTS, 2, 19), told("1/20"))


class AgainstAnotherWay(unittest.TestCase):
    def test_many_texts(self):
        source = random.Random(20)
        for size in range(21):
            for latest in (3, 12, 1000000):
                people = [(source.randint(0, 1), source.randint(0, latest), source.randint(0, 3) and 1)
                          for _ in range(size)]
                self.check(people)

    def check(self, people):
        moments = {0, 1000000}
        for _, time, _ in people:
            moments.update((max(time - 1, 0), time, min(time + 1, 1000000)))
        asked = [(call, group, time) for call in FRACTION_CALLS for group in (0, 1, 2)
                 for time in sorted(moments)]
        for begin in range(0, len(asked), 200):
            part = asked[begin:begin + 200]
            found = ask(text_of(people), *[[*which, MOST] for which in part])
            for which, answer in zip(part, found, strict=True):
                self.assertEqual(answer, told(fraction_text(expected(people, *which))), (people, which))


class Refusals(unittest.TestCase):
    def test_within_the_ranges(self):
        for call in FRACTION_CALLS:
            for group in (0, 1, 2):
                for time in (0, 1000000):
                    for most, refused in ((0, True), (1, True), (4095, False), (4096, False)):
                        with self.subTest(call=call, group=group, time=time, most=most):
                            answer = one(MIXED, call, group, time, most)
                            self.assertEqual(answer == [-1], refused)
                            self.assertNotEqual(answer, [-2])

    def test_out_of_the_ranges(self):
        for call in FRACTION_CALLS:
            for group in (-2147483648, -3, -1, 3, 4, 2147483647):
                self.assertEqual(one(MIXED, call, group, 4), [-2])
            for time in (-2147483648, -5, -1, 1000001, 2000000, 2147483647):
                self.assertEqual(one(MIXED, call, 0, time), [-2])
            for most in (-2147483648, -9, -1, 4097, 8192, 2147483647):
                self.assertEqual(one(MIXED, call, 0, 4, most), [-2])

    def test_just_as_long_as_most(self):
        for call, text in ((LASTS, "9/16"), (SPREAD, "279/10240"), (COME, "19/40")):
            self.assertEqual(one(MIXED, call, 2, 4, len(text)), told(text))
            self.assertEqual(one(MIXED, call, 2, 4, len(text) + 1), told(text))
            self.assertEqual(one(MIXED, call, 2, 4, len(text) - 1), [-1])
            self.assertEqual(one(MIXED, call, 2, 4, 0), [-1])

    def test_the_shortest_texts(self):
        self.assertEqual(one("", LASTS, 0, 0, 3), told("1/1"))
        self.assertEqual(one("", LASTS, 0, 0, 2), [-1])
        self.assertEqual(one("", COME, 0, 0, 3), told("0/1"))
        self.assertEqual(one("", COME, 0, 0, 2), [-1])

    def test_out_of_range_stands_before_too_long(self):
        for call in FRACTION_CALLS:
            self.assertEqual(one(MIXED, call, 3, 4, 0), [-2])
            self.assertEqual(one(MIXED, call, -1, 4, 2), [-2])
            self.assertEqual(one(MIXED, call, 2, -1, 0), [-2])
            self.assertEqual(one(MIXED, call, 2, 1000001, 2), [-2])
            self.assertEqual(one(MIXED, call, 2, 4, -1), [-2])


if __name__ == "__main__":
    unittest.main()
