"""One set of timers, and what each call on it does.

Each call answers a list of whole numbers; a refusal is one number below 0.
The numbers at the methods are those of the document's promises.
"""

HIGHEST_NAME = 4294967295
HIGHEST_TIME = 9223372036854775807
MOST_TIMERS = 65536

TOO_HIGH = -1
NOT_THERE = -2
NOT_FITTING = -4
NO_ROOM = -5


# A timer waits until it's due; or it's held, with what's left of its time.
class Timer:
    def __init__(self, name, every, tag):
        self.name = name
        self.every = every
        self.tag = tag
        self.due = 0
        self.turn = 0
        self.held = False
        self.left = 0


class TimerBook:
    def __init__(self):
        self.now = 0
        self.by_name = {}
        # Those waiting, in order, each as (due, turn, name); held ones are in by_name alone.
        self.waiting = []
        # Each turn is higher than all before it, so that it tells those of one time apart as they were set.
        self.turns = 0

    # 1
    def begin(self, now):
        if now > HIGHEST_TIME:
            return [TOO_HIGH]
        self.now = now
        self.by_name = {}
        self.waiting = []
        return [0]

    # 2: the call set
    def put(self, name, at, every, tag):
        if name > HIGHEST_NAME or tag > HIGHEST_NAME:
            return [TOO_HIGH]
        if at > HIGHEST_TIME or every > HIGHEST_TIME:
            return [TOO_HIGH]
        there = name in self.by_name
        if not there and len(self.by_name) >= MOST_TIMERS:
            return [NO_ROOM]
        if there:
            self.drop(name)
        timer = Timer(name, every, tag)
        self.by_name[name] = timer
        self.line_up(timer, at)
        return [1 if there else 0]

    # 3: the call after
    def put_after(self, name, wait, every, tag):
        # A wait that's too high makes a time that's too high, so put refuses it.
        return self.put(name, self.now + wait, every, tag)

    # 4
    def away(self, name):
        if name not in self.by_name:
            return [NOT_THERE]
        self.drop(name)
        return [0]

    # 5
    def away_all(self, tag):
        names = [name for name in self.by_name if self.by_name[name].tag == tag]
        for name in names:
            self.drop(name)
        return [len(names)]

    # 6
    def look(self, name):
        if name not in self.by_name:
            return [NOT_THERE]
        timer = self.by_name[name]
        if timer.held:
            return [1, timer.left, timer.every, timer.tag]
        return [0, self.how_many_before(timer), timer.due, timer.every, timer.tag]

    # 7: the call next
    def first_due(self):
        if len(self.waiting) == 0:
            return [NOT_THERE]
        return [0, self.waiting[0][0]]

    # 8: the call time
    def come_due(self, now, most):
        if now > HIGHEST_TIME:
            return [TOO_HIGH]
        if now < self.now:
            return [NOT_FITTING]
        self.now = now
        coming = self.waiting[:self.how_many_come(most)]
        self.waiting = self.waiting[len(coming):]
        told = [len(coming)]
        for place in coming:
            told.extend(self.come(self.by_name[place[2]]))
        return told

    # 9: the call count
    def how_many(self):
        return [len(self.waiting), len(self.by_name) - len(self.waiting)]

    # 10
    def later(self, name, by):
        if name not in self.by_name:
            return [NOT_THERE]
        timer = self.by_name[name]
        if timer.held:
            return [NOT_FITTING]
        if timer.due + by > HIGHEST_TIME:
            return [TOO_HIGH]
        self.leave_line(timer)
        self.line_up(timer, timer.due + by)
        return [0]

    # 11
    def hold(self, name):
        if name not in self.by_name:
            return [NOT_THERE]
        timer = self.by_name[name]
        if timer.held:
            return [NOT_FITTING]
        self.leave_line(timer)
        timer.held = True
        timer.left = max(timer.due - self.now, 0)
        return [0]

    # 12
    def go_on(self, name):
        if name not in self.by_name:
            return [NOT_THERE]
        timer = self.by_name[name]
        if not timer.held:
            return [NOT_FITTING]
        if self.now + timer.left > HIGHEST_TIME:
            return [TOO_HIGH]
        timer.held = False
        self.line_up(timer, self.now + timer.left)
        return [0]

    # 13: the call list
    def in_order(self, start, most):
        shown = self.waiting[start:start + most]
        told = [len(shown)]
        for place in shown:
            timer = self.by_name[place[2]]
            told.extend([timer.name, timer.due, timer.every, timer.tag])
        return told

    def how_many_come(self, most):
        # No more than MOST_TIMERS can come: there are no more, and one that's set again is due later than now.
        highest = min(most, len(self.waiting))
        many = 0
        while many < highest and self.waiting[many][0] <= self.now:
            many = many + 1
        return many

    # It has left the line before this: so it's dropped from by_name too, or lined up again.
    def come(self, timer):
        due = timer.due
        if timer.every == 0:
            self.by_name.pop(timer.name)
            return [timer.name, timer.tag, due, 0]
        left_out = (self.now - due) // timer.every
        due_again = due + (left_out + 1) * timer.every
        if due_again > HIGHEST_TIME:
            self.by_name.pop(timer.name)
        else:
            self.line_up(timer, due_again)
        return [timer.name, timer.tag, due, left_out]

    def line_up(self, timer, due):
        self.turns = self.turns + 1
        timer.due = due
        timer.turn = self.turns
        self.waiting.insert(self.how_many_before(timer), (timer.due, timer.turn, timer.name))

    def leave_line(self, timer):
        self.waiting.pop(self.how_many_before(timer))

    def drop(self, name):
        timer = self.by_name.pop(name)
        if not timer.held:
            self.leave_line(timer)

    def how_many_before(self, timer):
        # The order is always kept, so halving finds the place without a walk through all.
        place = (timer.due, timer.turn, timer.name)
        low = 0
        high = len(self.waiting)
        while low < high:
            middle = (low + high) // 2
            if self.waiting[middle] < place:
                low = middle + 1
            else:
                high = middle
        return low
