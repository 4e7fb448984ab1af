"""Many lists of calls, compared with a model that goes through all timers each time."""

import random
import unittest

from duetimers.timers import answers
from support import (TOP_NAME, TOP_NUMBER, TOP_TIME, after, away, away_all, begin, first, first_difference, joined,
                     look, put, split)


class PlainModel:
    """A list of (name, at, every, tag) in which one that's set goes to the end: so it stands as they were set."""

    def __init__(self):
        self.now = 0
        self.timers = []

    def in_order(self):
        return sorted(self.timers, key=lambda timer: timer[1])

    def without(self, place, value):
        kept = [timer for timer in self.timers if timer[place] != value]
        gone = len(self.timers) - len(kept)
        self.timers = kept
        return gone

    def answer(self, call):
        number, numbers = call[0], call[1:]
        if number == 1:
            if numbers[0] > TOP_TIME:
                return [-1]
            self.now = numbers[0]
            self.timers = []
            return [0]
        if number in (2, 3):
            name, at, every, tag = numbers
            at += self.now if number == 3 else 0
            if max(name, tag) > TOP_NAME or max(at, every) > TOP_TIME:
                return [-1]
            gone = self.without(0, name)
            self.timers.append((name, at, every, tag))
            return [gone]
        if number == 4:
            return [0] if self.without(0, numbers[0]) else [-2]
        if number == 5:
            return [self.without(3, numbers[0])]
        order = self.in_order()
        if number == 6:
            for before, timer in enumerate(order):
                if timer[0] == numbers[0]:
                    return [0, before] + list(timer[1:])
            return [-2]
        return [0, order[0][1]] if order else [-2]


def some_call(dice, names, times):
    name = dice.choice((dice.randrange(names), dice.randrange(names), dice.randrange(names), TOP_NAME, TOP_NAME + 1))
    tag = dice.choice((0, 1, 2, 3, TOP_NAME, dice.choice((TOP_NAME, TOP_NAME + 1, TOP_NUMBER))))
    time = dice.choice((dice.randrange(times),) * 9 + (TOP_TIME - dice.randrange(times), TOP_TIME + 1))
    every = dice.choice((0, 5, TOP_TIME, dice.choice((7, TOP_TIME + 1))))
    if dice.randrange(200) == 0:
        return begin(time)
    makers = [put(name, time, every, tag)] * 5 + [after(name, time, every, tag)] * 5
    makers += [away(name)] * 2 + [look(name)] * 6 + [first()] * 3
    if dice.randrange(10) == 0:
        return away_all(tag)
    return dice.choice(makers)


class AgainstPlainModel(unittest.TestCase):
    def compare(self, seed, how_many, names, times):
        dice = random.Random(seed)
        calls = [some_call(dice, names, times) for _ in range(how_many)]
        model = PlainModel()
        want = [model.answer(call) for call in calls]
        self.assertIsNone(first_difference(split(answers(joined(calls))), want))

    def test_many_short_lists(self):
        for seed in range(300):
            self.compare(seed, 60, names=6, times=4)

    def test_lists_with_many_names(self):
        for seed in range(10):
            self.compare(seed, 1000, names=200, times=50)

    def test_lists_of_3000_calls(self):
        for seed in range(3):
            self.compare(seed, 3000, names=500, times=10)


if __name__ == "__main__":
    unittest.main()
