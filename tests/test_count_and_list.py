"""Promises 9 and 13."""

import unittest

from support import (TOP_NAME, TOP_NUMBER, TOP_TIME, answered, away, away_all, begin, count, first, go_on, hold, later,
                     listed, look, put, time)


class Count(unittest.TestCase):
    def test_none(self):
        self.assertEqual(answered(count()), [[0, 0]])

    def test_those_waiting_and_those_held(self):
        got = answered(put(1, 10), count(), put(2, 20), put(3, 20), count(), hold(2), count(), hold(1), hold(3), count())
        self.assertEqual([got[place] for place in (1, 4, 6, 9)], [[1, 0], [3, 0], [2, 1], [0, 3]])

    def test_those_that_are_due_are_waiting(self):
        self.assertEqual(answered(begin(100), put(1, 10), put(2, 100), count())[3], [2, 0])

    def test_one_that_goes_on(self):
        self.assertEqual(answered(put(1, 10), hold(1), count(), go_on(1), count())[2::2], [[0, 1], [1, 0]])

    def test_one_set_anew(self):
        got = answered(put(1, 10), put(1, 20), count(), hold(1), put(1, 30), count(), later(1, 5), count())
        self.assertEqual([got[place] for place in (2, 5, 7)], [[1, 0], [1, 0], [1, 0]])

    def test_those_that_are_gone(self):
        got = answered(put(1, 10), put(2, 10), hold(2), away(1), count(), away(2), count())
        self.assertEqual(got[4::2], [[0, 1], [0, 0]])
        got = answered(put(1, 10, 0, 7), put(2, 10, 0, 7), put(3, 10, 0, 8), hold(2), away_all(7), count(), begin(0),
                       count())
        self.assertEqual(got[4:], [[2], [1, 0], [0], [0, 0]])

    def test_begin_and_held_ones(self):
        self.assertEqual(answered(put(1, 10), hold(1), begin(0), count(), listed()), [[0], [0], [0], [0, 0], [0]])

    def test_refused_calls(self):
        got = answered(put(1, 10), put(2, TOP_NUMBER), hold(3), go_on(1), later(1, TOP_NUMBER), time(TOP_NUMBER), count())
        self.assertEqual(got, [[0], [-1], [-2], [-4], [-1], [-1], [1, 0]])

    def test_it_changes_nothing(self):
        got = answered(put(1, 10), put(2, 10), hold(2), count(), count(), listed(), look(2))
        self.assertEqual(got[3:], [[1, 1], [1, 1], [1, 1, 10, 0, 0], [1, 10, 0, 0]])


# In their order: 4, 2, 5, 1 and 6; 3 is held.
SIX = (put(1, 30, 7, 8), put(2, 20), put(3, 20, 5, 6), put(4, 10), put(5, 20, 9, TOP_NAME), put(6, TOP_TIME, TOP_TIME),
       hold(3))
ROWS = ([4, 10, 0, 0], [2, 20, 0, 0], [5, 20, 9, TOP_NAME], [1, 30, 7, 8], [6, TOP_TIME, TOP_TIME, 0])
FAR = (65536, TOP_TIME, TOP_TIME + 1, TOP_NUMBER)


class List(unittest.TestCase):
    def check(self, start, most, rows):
        want = [len(rows)] + [number for row in rows for number in row]
        self.assertEqual(answered(*SIX, listed(start, most))[7], want)

    def test_none_is_waiting(self):
        self.assertEqual(answered(listed(0, 10), put(1, 10), hold(1), listed(0, 10)), [[0], [0], [0], [0]])

    def test_all(self):
        for most in (5, 6) + FAR:
            self.check(0, most, ROWS)

    def test_the_first_ones(self):
        self.check(0, 1, ROWS[:1])
        self.check(0, 4, ROWS[:4])

    def test_most_of_0(self):
        for start in (0, 2, 5, 6) + FAR:
            self.check(start, 0, ())

    def test_from_the_middle(self):
        self.check(1, 1, ROWS[1:2])
        self.check(2, 2, ROWS[2:4])
        self.check(2, 3, ROWS[2:])
        for most in (4, 5, 6) + FAR:
            self.check(2, most, ROWS[2:])

    def test_from_the_last_one(self):
        for most in (1, 2) + FAR:
            self.check(4, most, ROWS[4:])

    def test_from_the_end_and_beyond(self):
        for start in (5, 6, 7) + FAR:
            for most in (1, 5) + FAR:
                self.check(start, most, ())

    def test_one_that_is_past_is_listed(self):
        self.assertEqual(answered(begin(100), put(1, 200), put(2, 10), listed())[3], [2, 2, 10, 0, 0, 1, 200, 0, 0])

    def test_it_changes_nothing(self):
        got = answered(*SIX, listed(), listed(), count(), first(), look(1))
        self.assertEqual(got[7], got[8])
        self.assertEqual(got[9:], [[5, 1], [0, 10], [0, 3, 30, 7, 8]])

    def test_as_look_tells(self):
        got = answered(*SIX, look(4), look(2), look(5), look(1), look(6))
        self.assertEqual(got[7:], [[0, place] + row[1:] for place, row in enumerate(ROWS)])


if __name__ == "__main__":
    unittest.main()
