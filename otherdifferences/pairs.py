"""Pairs x, y and their differences: a list of calls on one new object, and what they answer."""

NOT_BEGUN = -11
NO_STEP_DOWN = -16
NOT_AS_TOLD = -22
TOO_GREAT = -28
NONE_HAS_IT = -33

LEAST_N = 2
GREATEST_N = 60
GREATEST_K = 60
GREATEST_IN_PAIR = 1000000
GREATEST_B_LISTED = 300
GREATEST_B_COUNTED = 2000
GREATEST_Y_ASKED = 1000000
MOST_STEPS = 100

BEGIN = 0


class Line:
    """What the calls of one list share: n, the one, and the pair where it stands."""

    def __init__(self):
        self.begun = False
        self.n = 0
        self.one = (0, 0)
        self.at = (0, 0)


def root(number):
    """The greatest whole number whose square is no more than number."""
    low = 0
    high = number + 1
    while high - low > 1:
        middle = (low + high) // 2
        if middle * middle <= number:
            low = middle
        else:
            high = middle
    return low


def is_square(number):
    side = root(number)
    return side * side == number


def difference_of(n, at):
    return at[0] * at[0] - n * at[1] * at[1]


def find_one(n):
    """The pair of difference 1 with the least y above 0.

    Every pair of difference 1 is among the fractions x/y that the continued
    fraction of n's root breaks off to, and from one to the next y never falls: so the
    first of them that has the difference 1 is the one. A search through all y
    would take thousands of steps for 46 and 53.
    """
    whole = root(n)
    part = whole
    shift = 0
    divisor = 1
    older = (1, 0)
    newer = (whole, 1)
    while difference_of(n, newer) != 1:
        shift = part * divisor - shift
        divisor = (n - shift * shift) // divisor
        part = (whole + shift) // divisor
        latest = (part * newer[0] + older[0], part * newer[1] + older[1])
        older = newer
        newer = latest
    return newer


def step_up(line, at):
    p = line.one[0]
    q = line.one[1]
    return (p * at[0] + line.n * q * at[1], p * at[1] + q * at[0])


def step_down(line, at):
    p = line.one[0]
    q = line.one[1]
    return (abs(p * at[0] - line.n * q * at[1]), abs(p * at[1] - q * at[0]))


def is_first(line, at):
    return step_down(line, at)[1] >= at[1]


def bound_of(line, k):
    p = line.one[0]
    q = line.one[1]
    return root(q * q * k // (2 * (p - 1)))


def difference_told(s, k):
    return -k if s == 1 else k


def pairs_with_y(n, wanted, y):
    """The pair whose difference is the wanted one and that has this y, in a list; an empty one if there is none."""
    square = wanted + n * y * y
    if square < 0:
        return []
    x = root(square)
    if x * x != square:
        return []
    return [(x, y)]


def pairs_up_to(n, wanted, greatest_y):
    """All pairs whose difference is the wanted one, with y from 0 to greatest_y, by y."""
    found = []
    for y in range(greatest_y + 1):
        found.extend(pairs_with_y(n, wanted, y))
    return found


def pairs_in_bound(line, s, k):
    """All pairs of the difference told by s and k that lie within its bound.

    No first one is above the bound, and the pair with the least y is a first
    one: so this holds all first ones, and is empty just if no pair is there.
    """
    return pairs_up_to(line.n, difference_told(s, k), bound_of(line, k))


def some_pair_has(line, s, k):
    return len(pairs_in_bound(line, s, k)) > 0


def is_k(k):
    return k >= 1 and k <= GREATEST_K


def tells_difference(s, k):
    return s <= 1 and is_k(k)


def laid_out(found):
    """The count of the pairs found, then the numbers of each."""
    numbers = [len(found)]
    for at in found:
        numbers.append(at[0])
        numbers.append(at[1])
    return numbers


def answer_begin(line, given):
    n = given[0]
    if n < LEAST_N or n > GREATEST_N or is_square(n):
        return [NOT_AS_TOLD]
    line.begun = True
    line.n = n
    line.one = find_one(n)
    line.at = (1, 0)
    return [0]


def answer_pair(line, given):
    x = given[0]
    y = given[1]
    if x > GREATEST_IN_PAIR or y > GREATEST_IN_PAIR or (x == 0 and y == 0):
        return [NOT_AS_TOLD]
    line.at = (x, y)
    return [0, difference_of(line.n, line.at)]


def answer_down(line, given):
    if is_first(line, line.at):
        return [NO_STEP_DOWN]
    line.at = step_down(line, line.at)
    return [0, line.at[0], line.at[1]]


def answer_up(line, given):
    above = step_up(line, line.at)
    if above[0] > GREATEST_IN_PAIR or above[1] > GREATEST_IN_PAIR:
        return [TOO_GREAT]
    line.at = above
    return [0, above[0], above[1]]


def answer_first(line, given):
    at = line.at
    steps = 0
    while steps < MOST_STEPS and not is_first(line, at):
        at = step_down(line, at)
        steps = steps + 1
    return [steps, at[0], at[1]]


def answer_isfirst(line, given):
    return [1 if is_first(line, line.at) else 0]


def answer_firsts(line, given):
    if not tells_difference(given[0], given[1]):
        return [NOT_AS_TOLD]
    found = pairs_in_bound(line, given[0], given[1])
    return laid_out([at for at in found if is_first(line, at)])


def answer_can(line, given):
    if not tells_difference(given[0], given[1]):
        return [NOT_AS_TOLD]
    return [1 if some_pair_has(line, given[0], given[1]) else 0]


def answer_least(line, given):
    if not tells_difference(given[0], given[1]):
        return [NOT_AS_TOLD]
    found = pairs_in_bound(line, given[0], given[1])
    if len(found) == 0:
        return [NONE_HAS_IT]
    return [0, found[0][0], found[0][1]]


def answer_upto(line, given):
    b = given[2]
    if not tells_difference(given[0], given[1]) or b > GREATEST_B_LISTED:
        return [NOT_AS_TOLD]
    return laid_out(pairs_up_to(line.n, difference_told(given[0], given[1]), b))


def answer_many(line, given):
    b = given[2]
    if not tells_difference(given[0], given[1]) or b > GREATEST_B_COUNTED:
        return [NOT_AS_TOLD]
    return [len(pairs_up_to(line.n, difference_told(given[0], given[1]), b))]


def answer_bound(line, given):
    k = given[0]
    if not is_k(k):
        return [NOT_AS_TOLD]
    return [bound_of(line, k)]


def answer_which(line, given):
    s = given[0]
    b = given[1]
    # b is no k itself, only where they end: b of 0 asks for none of them.
    if s > 1 or b > GREATEST_K:
        return [NOT_AS_TOLD]
    found = [k for k in range(1, b + 1) if some_pair_has(line, s, k)]
    return [len(found)] + found


def answer_withy(line, given):
    y = given[2]
    if not tells_difference(given[0], given[1]) or y > GREATEST_Y_ASKED:
        return [NOT_AS_TOLD]
    found = pairs_with_y(line.n, difference_told(given[0], given[1]), y)
    if len(found) == 0:
        return [NONE_HAS_IT]
    return [0, found[0][0], y]


def answer_diff(line, given):
    return [0, difference_of(line.n, line.at)]


def answer_other(line, given):
    below = step_down(line, line.at)
    return [0, below[0], below[1]]


def answer_told(line, given):
    return [line.n, line.at[0], line.at[1]]


# How many numbers stand behind each call's own, by that number.
GIVEN_COUNTS = (1, 2, 0, 0, 0, 0, 2, 2, 2, 3, 3, 1, 2, 3, 0, 0, 0)

ANSWERERS = (
    answer_begin,
    answer_pair,
    answer_down,
    answer_up,
    answer_first,
    answer_isfirst,
    answer_firsts,
    answer_can,
    answer_least,
    answer_upto,
    answer_many,
    answer_bound,
    answer_which,
    answer_withy,
    answer_diff,
    answer_other,
    answer_told,
)


def answer_call(line, number, given):
    if not line.begun and number != BEGIN:
        return [NOT_BEGUN]
    return ANSWERERS[number](line, given)


def answers(calls):
    """For each call in the list: how many numbers it answers, then these."""
    line = Line()
    answered = []
    place = 0
    while place < len(calls):
        number = calls[place]
        behind = place + 1 + GIVEN_COUNTS[number]
        answer = answer_call(line, number, calls[place + 1:behind])
        answered.append(len(answer))
        answered.extend(answer)
        place = behind
    return answered
