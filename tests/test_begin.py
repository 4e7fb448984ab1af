"""Promise 1, and how it is at the beginning."""

import unittest

from support import (TOO_HIGH_TIMES, TOP_TIME, after, answered, away, away_all, begin, first, look, put)


class Beginning(unittest.TestCase):
    def test_there_are_no_timers(self):
        self.assertEqual(answered(first(), look(0), away(0), away_all(0)), [[-2], [-2], [-2], [0]])

    def test_it_is_0(self):
        self.assertEqual(answered(after(1, 7), look(1)), [[0], [0, 0, 7, 0, 0]])


class Begin(unittest.TestCase):
    def test_it_is_now(self):
        self.assertEqual(answered(begin(100), after(1, 7), look(1)), [[0], [0], [0, 0, 107, 0, 0]])

    def test_timers_that_were_there_are_gone(self):
        got = answered(put(1, 5, 0, 9), put(2, 6, 0, 9), begin(3), look(1), look(2), first(), away_all(9), away(2))
        self.assertEqual(got, [[0], [0], [0], [-2], [-2], [-2], [0], [-2]])

    def test_a_name_is_free_again(self):
        self.assertEqual(answered(put(1, 5), begin(0), put(1, 6), look(1)), [[0], [0], [0], [0, 0, 6, 0, 0]])

    def test_it_may_be_earlier_than_before(self):
        self.assertEqual(answered(begin(100), begin(0), after(1, 7), first()), [[0], [0], [0], [0, 7]])

    def test_the_highest_time(self):
        got = answered(begin(TOP_TIME), after(1, 0), look(1))
        self.assertEqual(got, [[0], [0], [0, 0, TOP_TIME, 0, 0]])

    def test_a_refused_one_leaves_all_as_it_was(self):
        for now in TOO_HIGH_TIMES:
            got = answered(begin(50), put(1, 5, 3, 9), begin(now), look(1), first(), after(2, 7), look(2))
            self.assertEqual(got, [[0], [0], [-1], [0, 0, 5, 3, 9], [0, 5], [0], [0, 1, 57, 0, 0]])


if __name__ == "__main__":
    unittest.main()
