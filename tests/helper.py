"""Laying out calls for the tests, and slow answers found another way to hold the program's against."""

from math import isqrt

from otherdifferences.pairs import answers

NUMBERS = {
    "begin": 0,
    "pair": 1,
    "down": 2,
    "up": 3,
    "first": 4,
    "isfirst": 5,
    "firsts": 6,
    "can": 7,
    "least": 8,
    "upto": 9,
    "many": 10,
    "bound": 11,
    "which": 12,
    "withy": 13,
    "diff": 14,
    "other": 15,
    "told": 16,
}

ALL_N = [n for n in range(2, 61) if isqrt(n) ** 2 != n]

GREATEST = 4294967295

# s and k that tell no difference.
NO_DIFFERENCES = ((2, 1), (2, 0), (GREATEST, 60), (0, 0), (1, 0), (0, 61), (1, 61), (0, GREATEST), (1, GREATEST),
                  (GREATEST, GREATEST), (GREATEST, 0))


def laid(calls):
    """The calls, each a tuple of its name and its numbers, as the one list that is handed in."""
    numbers = []
    for call in calls:
        numbers.append(NUMBERS[call[0]])
        numbers.extend(call[1:])
    return numbers


def parted(numbers):
    """What was answered, as one list a call."""
    parts = []
    place = 0
    while place < len(numbers):
        count = numbers[place]
        part = numbers[place + 1:place + 1 + count]
        if len(part) != count or count == 0:
            raise AssertionError(f"a count is wrong at {place} in {numbers}")
        parts.append(part)
        place += 1 + count
    return parts


def ask(*calls):
    """One list an answer, for calls such as ("pair", 3, 1)."""
    parts = parted(answers(laid(calls)))
    if len(parts) != len(calls):
        raise AssertionError(f"{len(calls)} calls, {len(parts)} answers")
    return parts


def last(*calls):
    return ask(*calls)[-1]


def slow_one(n):
    """The one, by trying each y."""
    y = 1
    while isqrt(n * y * y + 1) ** 2 != n * y * y + 1:
        y += 1
    return isqrt(n * y * y + 1), y


def slow_down(n, one, at):
    p, q = one
    x, y = at
    return abs(p * x - n * q * y), abs(p * y - q * x)


def slow_pairs(n, wanted, greatest_y):
    """All pairs of a difference with y from 0 to greatest_y."""
    found = []
    for y in range(greatest_y + 1):
        square = wanted + n * y * y
        if square >= 0 and isqrt(square) ** 2 == square:
            found.append((isqrt(square), y))
    return found


def told_by(s, k):
    return k * (1 - 2 * s)


def flat(pairs):
    return [number for at in pairs for number in at]
