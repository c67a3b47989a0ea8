"""Answers a list of calls about the people of one text.

answers gives back, for each call in order, how many numbers it answers, then these.
All stands in this one file, since the program is to import nothing.

A person is a tuple: the group, the time, and 1 if it ended for them then, else 0.
A step is a tuple: an end, how many are there, and for how many it ends.
A fraction is a tuple in lowest terms: what is above and what is below, the latter greater than 0.
"""

NEWLINE = 10
BLANK = 32
DIGIT_ZERO = 48
DIGIT_NINE = 57

MOST_BYTES = 4096
MOST_PEOPLE = 20
LATEST = 1000000
ALL = 2

TOO_LONG = -1
OUT_OF_RANGE = -2
NO_HALF = -3
WRONG_LINE = -100

LASTS = 1
SPREAD = 2
HALF = 4
GAP = 5
SWAY = 6
PAIRS = 7
RARE = 8

# By each call's number, how many numbers stand behind it: lasts, spread, come, half, gap, sway, pairs, rare.
SIZES = {1: 3, 2: 3, 3: 3, 4: 1, 5: 1, 6: 1, 7: 0, 8: 2}

# The measures of rare.
TIMES_TOGETHER = 0
PAIRS_TOGETHER = 1
LAST_MEASURE = 2


def within(number, greatest):
    return 0 <= number and number <= greatest


# Texts


# Two marks side by side part an empty run, so that a doubled blank or newline is not lost.
def parted(numbers, mark):
    runs = [[]]
    for number in numbers:
        if number == mark:
            runs.append([])
        else:
            runs[-1].append(number)
    return runs


def lines_of(text):
    lines = parted(text, NEWLINE)
    # The last run is empty if the text is, or if it stands behind a closing newline: no line either way.
    if len(lines[-1]) == 0:
        lines.pop()
    return lines


# None stands for a wrong number, since 0 is a right one.
def number_of(digits, greatest):
    if len(digits) == 0 or (len(digits) > 1 and digits[0] == DIGIT_ZERO):
        return None
    number = 0
    for digit in digits:
        if digit < DIGIT_ZERO or digit > DIGIT_NINE:
            return None
        number = number * 10 + digit - DIGIT_ZERO
        # Left at once, so that a long row of digits never makes a long number.
        if number > greatest:
            return None
    return number


# None stands for a wrong line, so that begin can still count the lines ahead of it.
def person_of(line):
    words = parted(line, BLANK)
    if len(words) != 3:
        return None
    group = number_of(words[0], 1)
    time = number_of(words[1], LATEST)
    ended = number_of(words[2], 1)
    if group is None or time is None or ended is None:
        return None
    return (group, time, ended)


# Fractions


def lowest(above, below):
    divisor = above
    rest = below
    while rest != 0:
        smaller = divisor % rest
        divisor = rest
        rest = smaller
    return (above // divisor, below // divisor)


def plus(one, other):
    return lowest(one[0] * other[1] + other[0] * one[1], one[1] * other[1])


def times(one, other):
    return lowest(one[0] * other[0], one[1] * other[1])


def fraction_bytes(fraction):
    above = fraction[0]
    below = fraction[1]
    return [ord(sign) for sign in f"{above}/{below}"]


# What is told of some


def members(people, group):
    return [person for person in people if group == ALL or person[0] == group]


def there_at(people, time):
    return len([person for person in people if person[1] >= time])


def ended_at(people, time):
    return len([person for person in people if person[1] == time and person[2] == 1])


def steps_of(people):
    ends = sorted(set([person[1] for person in people if person[2] == 1]))
    return [(end, there_at(people, end), ended_at(people, end)) for end in ends]


def share_beyond(share, step):
    return times(share, lowest(step[1] - step[2], step[1]))


def lasting(steps):
    share = (1, 1)
    for step in steps:
        share = share_beyond(share, step)
    return share


def spread_of(steps):
    share = lasting(steps)
    # With nobody left, a step below would divide by 0.
    if share[0] == 0:
        return share
    total = (0, 1)
    for end, there, ended in steps:
        total = plus(total, lowest(ended, there * (there - ended)))
    return times(times(share, share), total)


def come_by(steps):
    total = (0, 1)
    for end, there, ended in steps:
        total = plus(total, lowest(ended, there))
    return total


def half_of(steps):
    share = (1, 1)
    for step in steps:
        share = share_beyond(share, step)
        if 2 * share[0] <= share[1]:
            return step[0]
    return NO_HALF


# The two groups against each other


def gap_of(people):
    ones = members(people, 1)
    total = (0, 1)
    for end, there, ended in steps_of(people):
        above = ended_at(ones, end) * there - there_at(ones, end) * ended
        total = plus(total, lowest(above, there))
    return total


def sway_of(people):
    ones = members(people, 1)
    total = (0, 1)
    for end, there, ended in steps_of(people):
        # With just one there, the part below would be 0.
        if there > 1:
            there_of_ones = there_at(ones, end)
            above = there_of_ones * (there - there_of_ones) * ended * (there - ended)
            total = plus(total, lowest(above, there * there * (there - 1)))
    return total


def pair_worth(person, other):
    if person[1] > other[1]:
        return 2
    return 1 if person[1] == other[1] else 0


def worth_against(person, others):
    return sum([pair_worth(person, other) for other in others])


def pairs_of(people):
    zeros = members(people, 0)
    return sum([worth_against(person, zeros) for person in members(people, 1)])


# How rare a measure is
#
# Each measure is a sum of scores, one for each of group 1, that don't hang on who else is chosen, but for
# what is the same for all choices. So the choices of one half of the people are held against those of the
# other half, and never gone through one by one: of 20 people there are up to 184756.


# In parts of the whole, so that the score is a whole number.
def gap_score(person, steps, whole):
    return person[2] * whole - sum([ended * (whole // there) for end, there, ended in steps if end <= person[1]])


def gap_scores(people):
    steps = steps_of(people)
    whole = 1
    for end, there, ended in steps:
        whole = whole * there
    return [gap_score(person, steps, whole) for person in people]


# The third is the gap: no other measure is handed on to here.
def scores_of(people, measure):
    if measure == TIMES_TOGETHER:
        return [person[1] for person in people]
    if measure == PAIRS_TOGETHER:
        # Against all, not group 0 alone: what the chosen are worth against each other is the same for all choices.
        return [worth_against(person, people) for person in people]
    return gap_scores(people)


def raised(sums, score):
    return [total + score for total in sums]


# By how many are chosen, the sorted sums of all such choices; equal sums stay, since each choice counts by itself.
def sums_by_size(scores):
    rows = [[0]]
    for score in scores:
        with_score = [[]] + [raised(sums, score) for sums in rows]
        rows = [without + taken for without, taken in zip(rows + [[]], with_score)]
    return [sorted(sums) for sums in rows]


# Both are sorted: the greater the one, the less the other needs, so the others are walked down just once.
def reaching(ones, others, least):
    found = 0
    short = len(others)
    for one in ones:
        while short > 0 and one + others[short - 1] >= least:
            short -= 1
        found += len(others) - short
    return found


def rare_of(people, measure):
    scores = scores_of(people, measure)
    least = sum([score for person, score in zip(people, scores) if person[0] == 1])
    chosen = len(members(people, 1))
    middle = len(scores) // 2
    late = sums_by_size(scores[middle:])
    found = 0
    ways = 0
    for size, sums in enumerate(sums_by_size(scores[:middle])):
        rest = chosen - size
        if within(rest, len(late) - 1):
            found += reaching(sums, late[rest], least)
            ways += len(sums) * len(late[rest])
    return lowest(found, ways)


# The calls


def begin_answer(size, people):
    if not within(size, MOST_BYTES):
        return OUT_OF_RANGE
    for line, person in enumerate(people, start=1):
        if person is None or line > MOST_PEOPLE:
            return WRONG_LINE - line
    return 0


def fraction_answer(fraction, most):
    text = fraction_bytes(fraction)
    if len(text) > most:
        return [TOO_LONG]
    return [len(text)] + text


# The third is come: no other call is handed on to here.
def measure_of(call, steps):
    if call == LASTS:
        return lasting(steps)
    if call == SPREAD:
        return spread_of(steps)
    return come_by(steps)


def measure_answer(people, call, group, time, most):
    if not (within(group, ALL) and within(time, LATEST) and within(most, MOST_BYTES)):
        return [OUT_OF_RANGE]
    steps = [step for step in steps_of(members(people, group)) if step[0] <= time]
    return fraction_answer(measure_of(call, steps), most)


def half_answer(people, group):
    if not within(group, ALL):
        return [OUT_OF_RANGE]
    return [half_of(steps_of(members(people, group)))]


def against_answer(people, call, most):
    if not within(most, MOST_BYTES):
        return [OUT_OF_RANGE]
    return fraction_answer(gap_of(people) if call == GAP else sway_of(people), most)


def rare_answer(people, measure, most):
    if not (within(measure, LAST_MEASURE) and within(most, MOST_BYTES)):
        return [OUT_OF_RANGE]
    return fraction_answer(rare_of(people, measure), most)


def answer_of(people, call, numbers):
    if call == HALF:
        return half_answer(people, numbers[0])
    if call == GAP or call == SWAY:
        return against_answer(people, call, numbers[0])
    if call == PAIRS:
        return [pairs_of(people)]
    if call == RARE:
        return rare_answer(people, numbers[0], numbers[1])
    return measure_answer(people, call, numbers[0], numbers[1], numbers[2])


def answers(calls):
    behind = 2 + calls[1]
    people = [person_of(line) for line in lines_of(calls[2:behind])]
    begun = begin_answer(calls[1], people)
    answered = [1, begun]
    # A refused begin is the only call.
    if begun < 0:
        return answered
    while behind < len(calls):
        call = calls[behind]
        first = behind + 1
        behind = first + SIZES[call]
        answer = answer_of(people, call, calls[first:behind])
        answered.append(len(answer))
        answered.extend(answer)
    return answered
