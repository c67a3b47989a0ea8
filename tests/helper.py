"""Builds lists of calls, reads lists of answers, and measures anew by another way to check against."""

from fractions import Fraction
from itertools import combinations

from lastingshares.groups import answers

LASTS = 1
SPREAD = 2
COME = 3
HALF = 4
GAP = 5
SWAY = 6
PAIRS = 7
RARE = 8
FRACTION_CALLS = (LASTS, SPREAD, COME)


def begin(text):
    numbers = list(text.encode("latin-1")) if isinstance(text, str) else list(text)
    return [0, len(numbers)] + numbers


def text_of(people):
    return "".join("%d %d %d\n" % person for person in people)


def parted(answered):
    """The numbers of each call, out of the one list that is given back."""
    parts = []
    at = 0
    while at < len(answered):
        count = answered[at]
        part = answered[at + 1:at + 1 + count]
        if count < 1 or len(part) != count:
            raise AssertionError("the counts don't fit: %r" % (answered,))
        parts.append(part)
        at += 1 + count
    return parts


def ask(text, *calls):
    """What the calls behind begin answer, each a list of numbers."""
    flat = begin(text)
    for call in calls:
        flat.extend(call)
    parts = parted(answers(flat))
    if parts[0] != [0]:
        raise AssertionError("begin is refused: %r" % (parts,))
    return parts[1:]


def told(text):
    """What a fraction's text is answered as."""
    return [len(text)] + list(text.encode("ascii"))


def fraction_text(fraction):
    return "%d/%d" % (fraction.numerator, fraction.denominator)


def some(people, group):
    return [person for person in people if group == 2 or person[0] == group]


def counts(people, group, time):
    """How many are there and for how many it ends, at each whole time up to the given one."""
    chosen = some(people, group)
    found = []
    for moment in sorted({t for _, t, _ in chosen if t <= time}):
        there = sum(1 for _, t, _ in chosen if t >= moment)
        ended = sum(1 for _, t, e in chosen if t == moment and e == 1)
        if ended:
            found.append((moment, there, ended))
    return found


def expected(people, call, group, time):
    found = counts(people, group, time)
    share = Fraction(1)
    for _, there, ended in found:
        share *= Fraction(there - ended, there)
    if call == LASTS:
        return share
    if call == COME:
        return sum((Fraction(ended, there) for _, there, ended in found), Fraction(0))
    if share == 0:
        return Fraction(0)
    return share * share * sum(
        (Fraction(ended, there * (there - ended)) for _, there, ended in found), Fraction(0))


def expected_half(people, group):
    for moment, _, _ in counts(people, group, 1000000):
        if expected(people, LASTS, group, moment) <= Fraction(1, 2):
            return moment
    return -3


def joint_counts(people):
    """At each end of all: those there and those for whom it ends, of group 0, then of group 1."""
    found = []
    for moment in sorted({t for _, t, e in people if e == 1}):
        row = []
        for group in (0, 1):
            row.append(sum(1 for g, t, _ in people if g == group and t >= moment))
            row.append(sum(1 for g, t, e in people if g == group and t == moment and e == 1))
        found.append(row)
    return found


def expected_gap(people):
    total = Fraction(0)
    for there_0, ended_0, there_1, ended_1 in joint_counts(people):
        total += ended_1 - there_1 * Fraction(ended_0 + ended_1, there_0 + there_1)
    return total


def expected_sway(people):
    total = Fraction(0)
    for there_0, ended_0, there_1, ended_1 in joint_counts(people):
        there = there_0 + there_1
        ended = ended_0 + ended_1
        if there != 1:
            total += Fraction(there_1 * there_0 * ended * (there - ended), there ** 2 * (there - 1))
    return total


def expected_pairs(people):
    total = 0
    for _, one, _ in some(people, 1):
        for _, zero, _ in some(people, 0):
            total += (one > zero) + (one >= zero)
    return total


def expected_times(people):
    return sum(time for group, time, _ in people if group == 1)


MEASURES = (expected_times, expected_pairs, expected_gap)


def expected_rare(people, k):
    """Every choice made by hand, and the measure taken anew of each by its own words."""
    measure = MEASURES[k]
    least = measure(people)
    reached = []
    for chosen in combinations(range(len(people)), len(some(people, 1))):
        made = [(int(place in chosen), time, ended) for place, (_, time, ended) in enumerate(people)]
        reached.append(measure(made) >= least)
    return Fraction(sum(reached), len(reached))
