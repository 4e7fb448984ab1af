"""What the tests share: calls by their names, and answers taken apart again."""

from duetimers.timers import answers

TOP_NAME = 4294967295
TOP_TIME = 2 ** 63 - 1
TOP_NUMBER = 2 ** 64 - 1
TOO_HIGH_NAMES = (TOP_NAME + 1, TOP_TIME, 2 ** 63, TOP_NUMBER)
TOO_HIGH_TIMES = (TOP_TIME + 1, TOP_NUMBER)


def begin(now):
    return [1, now]


def put(name, at, every=0, tag=0):
    return [2, name, at, every, tag]


def after(name, wait, every=0, tag=0):
    return [3, name, wait, every, tag]


def away(name):
    return [4, name]


def away_all(tag):
    return [5, tag]


def look(name):
    return [6, name]


def first():
    return [7]


def time(now, most=65536):
    return [8, now, most]


def count():
    return [9]


def later(name, by):
    return [10, name, by]


def hold(name):
    return [11, name]


def go_on(name):
    return [12, name]


def listed(start=0, most=65536):
    return [13, start, most]


def joined(calls):
    return [number for call in calls for number in call]


def split(numbers):
    """The answers, each as a list, from how many numbers each has and these."""
    parts = []
    place = 0
    while place < len(numbers):
        end = place + 1 + numbers[place]
        if numbers[place] < 1 or end > len(numbers):
            raise AssertionError(f"no such count may stand at {place}: {numbers!r}")
        parts.append(numbers[place + 1:end])
        place = end
    return parts


def answered(*calls):
    """What each of the calls on one new set of timers answers."""
    return split(answers(joined(calls)))


def names_of(answer):
    """The names in what time or list answers."""
    if len(answer) != 1 + 4 * answer[0]:
        raise AssertionError(f"not how many, and four numbers for each: {answer!r}")
    return answer[1::4]


def first_difference(got, want):
    """None if both are the same; unittest's own comparison takes minutes to show how long lists differ."""
    for place in range(max(len(got), len(want))):
        if got[place:place + 1] != want[place:place + 1]:
            return f"answer {place}: {got[place:place + 1]!r}, not {want[place:place + 1]!r}"
    return None
