"""Answers a list of calls about the people of one text.

answers gives back, for each call in order, how many numbers it answers, then these.
All stands in this one file, since the program is to import nothing.

A person is a tuple: the group, the time, and 1 if it ended for them then, else 0.
A step is a tuple: an end, how many are there, and for how many it ends.
A fraction is a tuple in lowest terms: what is above and what is below, the latter greater than 0.
"""

NEWLINE = 10
BLANK = 32
DIGIT_ZERO = 48
DIGIT_NINE = 57

MOST_BYTES = 4096
MOST_PEOPLE = 20
LATEST = 1000000
ALL = 2

TOO_LONG = -1
OUT_OF_RANGE = -2
NO_HALF = -3
WRONG_LINE = -100

LASTS = 1
SPREAD = 2
HALF = 4

# By each call's number, how many numbers stand behind it: lasts, spread, come, half.
SIZES = {1: 3, 2: 3, 3: 3, 4: 1}


def within(number, greatest):
    return 0 <= number and number <= greatest


# Texts


# Two marks side by side part an empty run, so that a doubled blank or newline is not lost.
def parted(numbers, mark):
    runs = [[]]
    for number in numbers:
        if number == mark:
            runs.append([])
        else:
            runs[-1].append(number)
    return runs


def lines_of(text):
    lines = parted(text, NEWLINE)
    # The last run is empty if the text is, or if it stands behind a closing newline: no line either way.
    if len(lines[-1]) == 0:
        lines.pop()
    return lines


# None stands for a wrong number, since 0 is a right one.
def number_of(digits, greatest):
    if len(digits) == 0 or (len(digits) > 1 and digits[0] == DIGIT_ZERO):
        return None
    number = 0
    for digit in digits:
        if digit < DIGIT_ZERO or digit > DIGIT_NINE:
            return None
        number = number * 10 + digit - DIGIT_ZERO
        # Left at once, so that a long row of digits never makes a long number.
        if number > greatest:
            return None
    return number


# None stands for a wrong line, so that begin can still count the lines ahead of it.
def person_of(line):
    words = parted(line, BLANK)
    if len(words) != 3:
        return None
    group = number_of(words[0], 1)
    time = number_of(words[1], LATEST)
    ended = number_of(words[2], 1)
    if group is None or time is None or ended is None:
        return None
    return (group, time, ended)


# Fractions


def lowest(above, below):
    divisor = above
    rest = below
    while rest != 0:
        smaller = divisor % rest
        divisor = rest
        rest = smaller
    return (above // divisor, below // divisor)


def plus(one, other):
    return lowest(one[0] * other[1] + other[0] * one[1], one[1] * other[1])


def times(one, other):
    return lowest(one[0] * other[0], one[1] * other[1])


def fraction_bytes(fraction):
    above = fraction[0]
    below = fraction[1]
    return [ord(sign) for sign in f"{above}/{below}"]


# What is told of some


def members(people, group):
    return [person for person in people if group == ALL or person[0] == group]


def steps_of(people):
    steps = []
    for end in sorted(set([person[1] for person in people if person[2] == 1])):
        there = [person for person in people if person[1] >= end]
        ended = [person for person in there if person[1] == end and person[2] == 1]
        steps.append((end, len(there), len(ended)))
    return steps


def share_beyond(share, step):
    return times(share, lowest(step[1] - step[2], step[1]))


def lasting(steps):
    share = (1, 1)
    for step in steps:
        share = share_beyond(share, step)
    return share


def spread_of(steps):
    share = lasting(steps)
    # With nobody left, a step below would divide by 0.
    if share[0] == 0:
        return share
    total = (0, 1)
    for end, there, ended in steps:
        total = plus(total, lowest(ended, there * (there - ended)))
    return times(times(share, share), total)


def come_by(steps):
    total = (0, 1)
    for end, there, ended in steps:
        total = plus(total, lowest(ended, there))
    return total


def half_of(steps):
    share = (1, 1)
    for step in steps:
        share = share_beyond(share, step)
        if 2 * share[0] <= share[1]:
            return step[0]
    return NO_HALF


# The calls


def begin_answer(size, people):
    if not within(size, MOST_BYTES):
        return OUT_OF_RANGE
    for line, person in enumerate(people, start=1):
        if person is None or line > MOST_PEOPLE:
            return WRONG_LINE - line
    return 0


def fraction_answer(fraction, most):
    text = fraction_bytes(fraction)
    if len(text) > most:
        return [TOO_LONG]
    return [len(text)] + text


# The third is come: no other call is handed on to here.
def measure_of(call, steps):
    if call == LASTS:
        return lasting(steps)
    if call == SPREAD:
        return spread_of(steps)
    return come_by(steps)


def measure_answer(people, call, group, time, most):
    if not (within(group, ALL) and within(time, LATEST) and within(most, MOST_BYTES)):
        return [OUT_OF_RANGE]
    steps = [step for step in steps_of(members(people, group)) if step[0] <= time]
    return fraction_answer(measure_of(call, steps), most)


def half_answer(people, group):
    if not within(group, ALL):
        return [OUT_OF_RANGE]
    return [half_of(steps_of(members(people, group)))]


def answer_of(people, call, numbers):
    if call == HALF:
        return half_answer(people, numbers[0])
    return measure_answer(people, call, numbers[0], numbers[1], numbers[2])


def answers(calls):
    behind = 2 + calls[1]
    people = [person_of(line) for line in lines_of(calls[2:behind])]
    begun = begin_answer(calls[1], people)
    answered = [1, begun]
    # A refused begin is the only call.
    if begun < 0:
        return answered
    while behind < len(calls):
        call = calls[behind]
        first = behind + 1
        behind = first + SIZES[call]
        answer = answer_of(people, call, calls[first:behind])
        answered.append(len(answer))
        answered.extend(answer)
    return answered
