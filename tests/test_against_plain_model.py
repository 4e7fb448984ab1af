"""Many lists of calls of all kinds, compared with a model that goes through all timers each time."""

import random
import unittest

from duetimers.timers import answers
from support import (TOP_NAME, TOP_NUMBER, TOP_TIME, after, away, away_all, begin, count, first, first_difference, go_on,
                     hold, joined, later, listed, look, put, split, time)


class PlainModel:
    """Those waiting are a list of (name, due, every, tag) in which one that's set goes to the end: so it stands as they
    were set. Held ones are a list of (name, left, every, tag)."""

    def __init__(self):
        self.now = 0
        self.waiting = []
        self.held = []

    def in_order(self):
        return sorted(self.waiting, key=lambda timer: timer[1])

    def without(self, place, value):
        before = len(self.waiting) + len(self.held)
        self.waiting = [timer for timer in self.waiting if timer[place] != value]
        self.held = [timer for timer in self.held if timer[place] != value]
        return before - len(self.waiting) - len(self.held)

    def found(self, timers, name):
        for timer in timers:
            if timer[0] == name:
                return timer
        return None

    def answer(self, call):
        calls = (None, self.begin, self.set, self.after, self.away, self.away_all, self.look, self.next, self.time,
                 self.count, self.later, self.hold, self.go_on, self.list)
        return calls[call[0]](*call[1:])

    def begin(self, now):
        if now > TOP_TIME:
            return [-1]
        self.now, self.waiting, self.held = now, [], []
        return [0]

    def set(self, name, at, every, tag):
        if max(name, tag) > TOP_NAME or max(at, every) > TOP_TIME:
            return [-1]
        gone = self.without(0, name)
        self.waiting.append((name, at, every, tag))
        return [gone]

    def after(self, name, wait, every, tag):
        return self.set(name, self.now + wait, every, tag)

    def away(self, name):
        return [0] if self.without(0, name) else [-2]

    def away_all(self, tag):
        return [self.without(3, tag)]

    def look(self, name):
        for before, timer in enumerate(self.in_order()):
            if timer[0] == name:
                return [0, before, *timer[1:]]
        held = self.found(self.held, name)
        return [1, *held[1:]] if held else [-2]

    def next(self):
        return [0, min(timer[1] for timer in self.waiting)] if self.waiting else [-2]

    def time(self, now, most):
        if now > TOP_TIME:
            return [-1]
        if now < self.now:
            return [-4]
        self.now = now
        told = []
        while len(told) < min(most, 65536) and self.waiting and self.in_order()[0][1] <= now:
            name, due, every, tag = self.in_order()[0]
            self.without(0, name)
            # A range counts and goes on by itself: these are the times at which it's due again, by now and then.
            more = range(due + every, now + 1, every) if every else ()
            told.append((name, tag, due, len(more)))
            if every:
                self.set(name, (more[-1] if more else due) + every, every, tag)
        return [len(told)] + joined(told)

    def count(self):
        return [len(self.waiting), len(self.held)]

    def later(self, name, by):
        if self.found(self.held, name):
            return [-4]
        timer = self.found(self.waiting, name)
        if not timer:
            return [-2]
        if timer[1] + by > TOP_TIME:
            return [-1]
        self.set(name, timer[1] + by, timer[2], timer[3])
        return [0]

    def hold(self, name):
        if self.found(self.held, name):
            return [-4]
        timer = self.found(self.waiting, name)
        if not timer:
            return [-2]
        self.waiting.remove(timer)
        self.held.append((name, timer[1] - self.now if timer[1] > self.now else 0, timer[2], timer[3]))
        return [0]

    def go_on(self, name):
        if self.found(self.waiting, name):
            return [-4]
        timer = self.found(self.held, name)
        if not timer:
            return [-2]
        if timer[1] > TOP_TIME - self.now:
            return [-1]
        self.set(name, self.now + timer[1], timer[2], timer[3])
        return [0]

    def list(self, start, most):
        shown = []
        for before, timer in enumerate(self.in_order()):
            if before >= start and len(shown) < most:
                shown.append(timer)
        return [len(shown)] + joined(shown)


class Caller:
    """Makes up calls; it looks at the model's time, so that most times are about now."""

    def __init__(self, seed, names, times):
        self.dice = random.Random(seed)
        self.names = names
        self.times = times

    def name(self):
        if self.dice.randrange(20) == 0:
            return self.dice.choice((TOP_NAME, TOP_NAME + 1, TOP_NUMBER))
        return self.dice.randrange(self.names)

    def tag(self):
        return self.dice.choice((0, 1, 2, 3, TOP_NAME, self.dice.choice((TOP_NAME, TOP_NAME + 1, TOP_NUMBER))))

    def every(self):
        return self.dice.choice((0, 0, 1, 2, 3, 5, self.times, TOP_TIME, self.dice.choice((7, TOP_TIME + 1))))

    def wait(self, now):
        if self.dice.randrange(30) == 0:
            return self.dice.choice((TOP_TIME - now, TOP_TIME - now + 1, TOP_TIME + 1, TOP_NUMBER))
        return self.dice.randrange(self.times)

    def at(self, now):
        if self.dice.randrange(30) == 0:
            return self.dice.choice((0, TOP_TIME, TOP_TIME + 1, TOP_NUMBER))
        return max(now + self.dice.randrange(self.times) - self.times // 3, 0)

    def most(self):
        return self.dice.choice((0, 1, 2, 3, self.names // 2, self.names, 65536, TOP_NUMBER))

    def new_now(self, now):
        if self.dice.randrange(40) == 0:
            return self.dice.choice((max(now - 1, 0), 0, TOP_TIME + 1, TOP_NUMBER))
        return now + self.dice.choice((0, 1, 2, self.dice.randrange(self.times)))

    def call(self, now):
        name, at, wait, every, tag = self.name(), self.at(now), self.wait(now), self.every(), self.tag()
        if self.dice.randrange(200) == 0:
            return begin(self.dice.choice((0, 3, TOP_TIME - self.times, TOP_TIME - 2 * self.times, TOP_TIME + 1)))
        if self.dice.randrange(40) == 0:
            return away_all(tag)
        often = [put(name, at, every, tag), after(name, wait, every, tag), look(name), time(self.new_now(now), self.most())]
        seldom = [away(name), first(), count(), later(name, wait), hold(name), go_on(name), go_on(name),
                  listed(self.most(), self.most())]
        return self.dice.choice(often * 3 + seldom)


class AgainstPlainModel(unittest.TestCase):
    def compare(self, seed, how_many, names, times):
        caller = Caller(seed, names, times)
        model = PlainModel()
        calls = []
        want = []
        for _ in range(how_many):
            calls.append(caller.call(model.now))
            want.append(model.answer(calls[-1]))
        numbers = joined(calls)
        kept = list(numbers)
        got = answers(numbers)
        self.assertIsNone(first_difference(split(got), want), f"seed {seed}")
        self.assertTrue(numbers == kept)
        self.assertTrue(answers(numbers) == got)
        return calls, want

    def test_many_short_lists(self):
        for seed in range(400):
            self.compare(seed, 80, names=6, times=6)

    def test_lists_with_many_names(self):
        for seed in range(10):
            self.compare(seed, 1000, names=150, times=60)

    def test_lists_of_3000_calls(self):
        for seed in range(3):
            self.compare(seed, 3000, names=40, times=10)

    def test_each_call_and_each_refusal_is_among_them(self):
        met = set()
        for seed in range(60):
            calls, want = self.compare(seed, 300, names=8, times=8)
            met.update((call[0], min(answer[0], 0)) for call, answer in zip(calls, want))
        refusals = [(1, -1), (2, -1), (3, -1), (4, -2), (6, -2), (7, -2), (8, -1), (8, -4), (10, -2), (10, -4), (10, -1),
                    (11, -2), (11, -4), (12, -2), (12, -4), (12, -1)]
        self.assertEqual(met, {(number, 0) for number in range(1, 14)} | set(refusals))


if __name__ == "__main__":
    unittest.main()
