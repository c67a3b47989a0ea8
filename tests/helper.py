"""Builds lists of calls, reads lists of answers, and measures anew by another way to check against."""

from fractions import Fraction

from lastingshares.groups import answers

LASTS = 1
SPREAD = 2
COME = 3
HALF = 4
FRACTION_CALLS = (LASTS, SPREAD, COME)


def begin(text):
    numbers = list(text.encode("latin-1")) if isinstance(text, str) else list(text)
    return [0, len(numbers)] + numbers


def text_of(people):
    return "".join("%d %d %d\n" % person for person in people)


def parted(answered):
    """The numbers of each call, out of the one list that is given back."""
    parts = []
    at = 0
    while at < len(answered):
        count = answered[at]
        part = answered[at + 1:at + 1 + count]
        if count < 1 or len(part) != count:
            raise AssertionError("the counts don't fit: %r" % (answered,))
        parts.append(part)
        at += 1 + count
    return parts


def ask(text, *calls):
    """What the calls behind begin answer, each a list of numbers."""
    flat = begin(text)
    for call in calls:
        flat.extend(call)
    parts = parted(answers(flat))
    if parts[0] != [0]:
        raise AssertionError("begin is refused: %r" % (parts,))
    return parts[1:]


def told(text):
    """What a fraction's text is answered as."""
    return [len(text)] + list(text.encode("ascii"))


def fraction_text(fraction):
    return "%d/%d" % (fraction.numerator, fraction.denominator)


def some(people, group):
    return [person for person in people if group == 2 or person[0] == group]


def counts(people, group, time):
    """How many are there and for how many it ends, at each whole time up to the given one."""
    chosen = some(people, group)
    found = []
    for moment in sorted({t for _, t, _ in chosen if t <= time}):
        there = sum(1 for _, t, _ in chosen if t >= moment)
        ended = sum(1 for _, t, e in chosen if t == moment and e == 1)
        if ended:
            found.append((moment, there, ended))
    return found


def expected(people, call, group, time):
    found = counts(people, group, time)
    share = Fraction(1)
    for _, there, ended in found:
        share *= Fraction(there - ended, there)
    if call == LASTS:
        return share
    if call == COME:
        return sum((Fraction(ended, there) for _, there, ended in found), Fraction(0))
    if share == 0:
        return Fraction(0)
    return share * share * sum(
        (Fraction(ended, there * (there - ended)) for _, there, ended in found), Fraction(0))


def expected_half(people, group):
    for moment, _, _ in counts(people, group, 1000000):
        if expected(people, LASTS, group, moment) <= Fraction(1, 2):
            return moment
    return -3
