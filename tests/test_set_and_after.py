"""Promises 2 and 3, and the order in which timers stand."""

import unittest

from support import (TOO_HIGH_NAMES, TOO_HIGH_TIMES, TOP_NAME, TOP_NUMBER, TOP_TIME,
                     after, answered, away, away_all, begin, first, look, put)


class Set(unittest.TestCase):
    def test_a_new_one(self):
        self.assertEqual(answered(put(4, 30, 20, 10), look(4)), [[0], [0, 0, 30, 20, 10]])

    def test_at_is_not_counted_from_now(self):
        self.assertEqual(answered(begin(1000), put(4, 1500), first()), [[0], [0], [0, 1500]])

    def test_a_time_that_is_past(self):
        got = answered(begin(1000), put(4, 999), put(5, 0), look(4), first())
        self.assertEqual(got, [[0], [0], [0], [0, 1, 999, 0, 0], [0, 0]])

    def test_one_by_that_name_is_gone(self):
        got = answered(put(4, 30, 20, 10), put(4, 50, 60, 70), look(4), first(), away_all(10), away(4), look(4), first())
        self.assertEqual(got, [[0], [1], [0, 0, 50, 60, 70], [0, 50], [0], [0], [-2], [-2]])

    def test_lowest_and_highest_numbers(self):
        got = answered(put(0, 0), look(0), put(TOP_NAME, TOP_TIME, TOP_TIME, TOP_NAME), look(TOP_NAME))
        self.assertEqual(got, [[0], [0, 0, 0, 0, 0], [0], [0, 1, TOP_TIME, TOP_TIME, TOP_NAME]])

    def test_a_name_that_is_too_high(self):
        for name in TOO_HIGH_NAMES:
            self.assertEqual(answered(put(name, 1), look(name), first()), [[-1], [-2], [-2]])

    def test_other_numbers_that_are_too_high(self):
        wrong = [(at, 0, 0) for at in TOO_HIGH_TIMES]
        wrong += [(1, every, 0) for every in TOO_HIGH_TIMES]
        wrong += [(1, 0, tag) for tag in TOO_HIGH_NAMES]
        wrong += [(TOP_NUMBER, TOP_NUMBER, TOP_NUMBER)]
        for at, every, tag in wrong:
            self.assertEqual(answered(put(4, at, every, tag), look(4), first()), [[-1], [-2], [-2]])

    def test_a_refused_one_leaves_the_one_by_that_name(self):
        wrong = [(at, 0, 0) for at in TOO_HIGH_TIMES]
        wrong += [(1, every, 0) for every in TOO_HIGH_TIMES]
        wrong += [(1, 0, tag) for tag in TOO_HIGH_NAMES]
        for at, every, tag in wrong:
            got = answered(put(4, 30, 20, 10), put(5, 30), put(4, at, every, tag), look(4), look(5), first())
            self.assertEqual(got, [[0], [0], [-1], [0, 0, 30, 20, 10], [0, 1, 30, 0, 0], [0, 30]])


class After(unittest.TestCase):
    def test_a_new_one(self):
        self.assertEqual(answered(begin(100), after(4, 30, 20, 10), look(4)), [[0], [0], [0, 0, 130, 20, 10]])

    def test_no_wait(self):
        self.assertEqual(answered(begin(100), after(4, 0), first()), [[0], [0], [0, 100]])

    def test_one_by_that_name_is_gone(self):
        got = answered(begin(100), put(4, 30, 20, 10), after(4, 50, 60, 70), look(4), first(), away_all(10))
        self.assertEqual(got, [[0], [0], [1], [0, 0, 150, 60, 70], [0, 150], [0]])

    def test_highest_numbers(self):
        got = answered(after(TOP_NAME, TOP_TIME, TOP_TIME, TOP_NAME), look(TOP_NAME))
        self.assertEqual(got, [[0], [0, 0, TOP_TIME, TOP_TIME, TOP_NAME]])

    def test_a_time_worked_out_that_is_just_the_highest(self):
        for now in (1, 100, TOP_TIME - 1, TOP_TIME):
            got = answered(begin(now), after(4, TOP_TIME - now), first())
            self.assertEqual(got, [[0], [0], [0, TOP_TIME]])

    def test_a_time_worked_out_that_is_one_too_high(self):
        for now in (0, 1, 100, TOP_TIME - 1, TOP_TIME):
            got = answered(begin(now), after(4, TOP_TIME - now + 1), look(4), first())
            self.assertEqual(got, [[0], [-1], [-2], [-2]])

    def test_both_highest(self):
        self.assertEqual(answered(begin(TOP_TIME), after(4, TOP_TIME), first()), [[0], [-1], [-2]])

    def test_a_name_that_is_too_high(self):
        for name in TOO_HIGH_NAMES:
            self.assertEqual(answered(after(name, 1), look(name), first()), [[-1], [-2], [-2]])

    def test_a_refused_one_leaves_the_one_by_that_name(self):
        wrong = [(wait, 0, 0) for wait in TOO_HIGH_TIMES + (TOP_TIME,)]
        wrong += [(1, every, 0) for every in TOO_HIGH_TIMES]
        wrong += [(1, 0, tag) for tag in TOO_HIGH_NAMES]
        for wait, every, tag in wrong:
            got = answered(begin(1), put(4, 30, 20, 10), put(5, 30), after(4, wait, every, tag), look(4), look(5))
            self.assertEqual(got, [[0], [0], [0], [-1], [0, 0, 30, 20, 10], [0, 1, 30, 0, 0]])


class Order(unittest.TestCase):
    def test_by_their_times(self):
        got = answered(put(1, 30), put(2, 10), put(3, 20), look(1), look(2), look(3))
        self.assertEqual(got[3:], [[0, 2, 30, 0, 0], [0, 0, 10, 0, 0], [0, 1, 20, 0, 0]])

    def test_of_one_time_as_they_were_set(self):
        got = answered(put(9, 30), put(1, 30), after(5, 30), put(3, 30), look(9), look(1), look(5), look(3))
        self.assertEqual([answer[1] for answer in got[4:]], [0, 1, 2, 3])

    def test_one_set_anew_by_set_stands_behind_those_of_its_time(self):
        got = answered(put(1, 30), put(2, 30), put(3, 30), put(1, 30), look(2), look(3), look(1))
        self.assertEqual(got[3], [1])
        self.assertEqual([answer[1] for answer in got[4:]], [0, 1, 2])

    def test_one_set_anew_by_after_stands_behind_those_of_its_time(self):
        got = answered(begin(10), put(1, 30), after(2, 20), put(3, 30), after(1, 20), look(2), look(3), look(1))
        self.assertEqual(got[4], [1])
        self.assertEqual([answer[1] for answer in got[5:]], [0, 1, 2])

    def test_one_set_anew_for_an_earlier_and_a_later_time(self):
        got = answered(put(1, 30), put(2, 30), put(3, 40), put(2, 20), look(2), look(1), put(2, 40), look(2), look(3))
        self.assertEqual(got[4:6], [[0, 0, 20, 0, 0], [0, 1, 30, 0, 0]])
        self.assertEqual(got[7:], [[0, 2, 40, 0, 0], [0, 1, 40, 0, 0]])

    def test_one_taken_away_and_set_again_stands_behind(self):
        got = answered(put(1, 30), put(2, 30), away(1), put(1, 30), look(2), look(1))
        self.assertEqual(got[2:], [[0], [0], [0, 0, 30, 0, 0], [0, 1, 30, 0, 0]])

    def test_a_refused_set_takes_no_place(self):
        got = answered(put(1, 30), put(2, 30), put(1, 30, TOP_NUMBER), look(1), look(2))
        self.assertEqual(got[2:], [[-1], [0, 0, 30, 0, 0], [0, 1, 30, 0, 0]])


if __name__ == "__main__":
    unittest.main()
