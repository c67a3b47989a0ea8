"""The interface: how calls and answers lie in their lists, and what answers leaves alone."""

import contextlib
import io
import sys
import unittest

from lastingshares import groups
from lastingshares.groups import answers
from tests.helper import COME, GAP, HALF, LASTS, PAIRS, RARE, SPREAD, SWAY, begin, told

TEXT = "0 2 1\n0 4 1\n1 3 0\n1 5 1\n"

# Each call behind begin, with what it answers.
ASKED = (
    ([LASTS, 0, 2, 3], told("1/2")),
    ([LASTS, 3, 2, 3], [-2]),
    ([LASTS, 0, 2, 3], told("1/2")),
    ([SPREAD, 2, 4, 2], [-1]),
    ([SPREAD, 2, 4, 4096], told("21/256")),
    ([HALF, 3], [-2]),
    ([HALF, 0], [2]),
    ([COME, 2, 1000001, 9], [-2]),
    ([COME, 2, 1000000, 9], told("7/4")),
    ([HALF, 2], [4]),
    ([HALF, 1], [5]),
    ([LASTS, 1, 4, 4097], [-2]),
    ([LASTS, 1, 4, 0], [-1]),
    ([LASTS, 1, 4, 3], told("1/1")),
    ([GAP, 3], [-1]),
    ([GAP, 4], told("-1/1")),
    ([GAP, 4097], [-2]),
    ([RARE, 3, 9], [-2]),
    ([RARE, 0, 9], told("1/3")),
    ([SWAY, 2], [-1]),
    ([SWAY, 3], told("1/2")),
    ([SWAY, -1], [-2]),
    ([PAIRS], [6]),
    ([RARE, 1, 0], [-1]),
    ([RARE, 1, 9], told("1/3")),
    ([RARE, -1, 0], [-2]),
    ([RARE, 2, 4097], [-2]),
    ([RARE, 2, 9], told("1/1")),
    ([PAIRS], [6]),
    ([GAP, 9], told("-1/1")),
    ([LASTS, 0, 2, 3], told("1/2")),
)

# One call of each, none of them refused.
EACH = ([LASTS, 2, 4, 9], [SPREAD, 2, 4, 9], [COME, 2, 4, 9], [HALF, 2], [GAP, 9], [SWAY, 9], [PAIRS], [RARE, 0, 9],
        [RARE, 1, 9], [RARE, 2, 9])


def asked_list():
    calls = begin(TEXT)
    for call, _ in ASKED:
        calls.extend(call)
    return calls


def answered_list():
    answered = [1, 0]
    for _, answer in ASKED:
        answered.append(len(answer))
        answered.extend(answer)
    return answered


class Lists(unittest.TestCase):
    def test_written_out(self):
        calls = [0, 6, 48, 32, 53, 32, 49, 10, 1, 0, 4, 9, 4, 0, 3, 0, 5, 3, 4, 1, 2, 0, 5, 2]
        self.assertEqual(answers(calls), [1, 0, 4, 3, 49, 47, 49, 1, 5, 4, 3, 49, 47, 49, 1, -3, 1, -1])

    def test_written_out_of_both_groups(self):
        calls = [0, 11, 48, 32, 53, 32, 49, 10, 49, 32, 54, 32, 48]
        calls += [7, 5, 4, 8, 0, 3, 6, 3, 8, 2, 2, 5, 3, 7]
        answered = [1, 0, 1, 2, 5, 4, 45, 49, 47, 50, 4, 3, 49, 47, 50, 4, 3, 49, 47, 52, 1, -1, 1, -1, 1, 2]
        self.assertEqual(answers(calls), answered)

    def test_begin_alone(self):
        self.assertEqual(answers([0, 0]), [1, 0])
        self.assertEqual(answers(begin(TEXT)), [1, 0])

    def test_a_refused_begin_alone(self):
        self.assertEqual(answers([0, 1, 10]), [1, -101])
        self.assertEqual(answers(begin(TEXT + "0 2\n")), [1, -105])

    def test_several_calls_with_refusals_among_them(self):
        self.assertEqual(answers(asked_list()), answered_list())

    def test_the_same_behind_each_refusal(self):
        refusals = [call for call, answer in ASKED if answer[0] < 0]
        self.assertEqual({refused[0] for refused in refusals}, {LASTS, SPREAD, COME, HALF, GAP, SWAY, RARE})
        for call in EACH:
            plain = answers(begin(TEXT) + call)
            self.assertGreaterEqual(plain[3], 0)
            for refused in refusals:
                self.assertEqual(answers(begin(TEXT) + refused + call)[4:], plain[2:])

    def test_the_same_behind_each_call(self):
        for call in EACH:
            plain = answers(begin(TEXT) + call)[2:]
            for ahead in EACH:
                both = answers(begin(TEXT) + ahead + call)
                self.assertEqual(both, answers(begin(TEXT) + ahead) + plain)

    def test_300_calls(self):
        calls = begin(TEXT) + [SPREAD, 2, 4, 4096, HALF, 7, HALF, 0] * 99 + [HALF, 1, HALF, 2]
        expected = [1, 0] + ([7] + told("21/256") + [1, -2, 1, 2]) * 99 + [1, 5, 1, 4]
        self.assertEqual(answers(calls), expected)

    def test_300_calls_of_all_kinds(self):
        calls = begin(TEXT)
        expected = [1, 0]
        for place in range(299):
            call, answer = ASKED[place % len(ASKED)]
            calls += call
            expected += [len(answer)] + answer
        self.assertEqual(answers(calls), expected)

    def test_300_calls_of_20_people(self):
        people = begin("".join("%d %d 1\n" % (place // 10, place) for place in range(20)))
        calls = people + [RARE, 0, 9, RARE, 1, 9, RARE, 2, 9] * 99 + [PAIRS, PAIRS]
        rarest = [9] + told("1/184756")
        self.assertEqual(answers(calls), [1, 0] + (rarest + rarest + [4] + told("1/1")) * 99 + [1, 200, 1, 200])

    def test_whole_numbers_alone(self):
        answered = answers(asked_list())
        self.assertIs(type(answered), list)
        self.assertEqual({type(number) for number in answered}, {int})
        self.assertIs(type(answers([0, 1, 10])[1]), int)


class LeftAlone(unittest.TestCase):
    def test_the_list_handed_in(self):
        for calls in (asked_list(), [0, 0], [0, 1, 10], begin(TEXT)):
            before = list(calls)
            answers(calls)
            self.assertEqual(calls, before)

    def test_the_list_is_never_written_to(self):
        class Guarded(list):
            def refuse(self, *_):
                raise AssertionError("the list handed in is changed")

            __setitem__ = __delitem__ = __iadd__ = __imul__ = refuse
            append = extend = insert = pop = remove = clear = sort = reverse = refuse

        self.assertEqual(answers(Guarded(asked_list())), answered_list())

    def test_nothing_is_kept(self):
        first = answers(asked_list())
        other = answers(begin("1 7 1\n1 9 1\n") + [HALF, 1, HALF, 0])
        self.assertEqual(other, [1, 0, 1, 7, 1, -3])
        self.assertEqual(answers([0, 1, 10]), [1, -101])
        self.assertEqual(answers([0, 0, HALF, 1, LASTS, 1, 9, 3]), [1, 0, 1, -3, 4] + told("1/1"))
        self.assertEqual(answers([0, 0, PAIRS, GAP, 3, RARE, 0, 3]), [1, 0, 1, 0, 4] + told("0/1") + [4] + told("1/1"))
        self.assertEqual(answers(asked_list()), first)

    def test_what_is_given_back_is_the_callers(self):
        first = answers(asked_list())
        first.clear()
        self.assertEqual(answers(asked_list()), answered_list())

    def test_the_module_stays_as_it_is(self):
        before = {name: repr(value) for name, value in vars(groups).items() if name.isupper()}
        answers(asked_list())
        self.assertEqual({name: repr(value) for name, value in vars(groups).items() if name.isupper()}, before)

    def test_nothing_is_printed_or_imported(self):
        modules = set(sys.modules)
        out = io.StringIO()
        err = io.StringIO()
        with contextlib.redirect_stdout(out), contextlib.redirect_stderr(err):
            answers(asked_list())
            answers([0, 1, 10])
        self.assertEqual((out.getvalue(), err.getvalue()), ("", ""))
        self.assertEqual(set(sys.modules), modules)


if __name__ == "__main__":
    unittest.main()
