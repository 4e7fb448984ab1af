"""Promises 11 and 12, and promises 2 to 7 with held timers."""

import unittest

from support import (TOO_HIGH_NAMES, TOP_NAME, TOP_NUMBER, TOP_TIME, after, answered, away, away_all, begin, count, first,
                     go_on, hold, later, listed, look, names_of, put, time)


class Hold(unittest.TestCase):
    def test_one_that_is_to_come(self):
        got = answered(begin(100), put(1, 130, 20, 7), hold(1), look(1), first(), listed())
        self.assertEqual(got[2:], [[0], [1, 30, 20, 7], [-2], [0]])

    def test_one_that_is_due_in_1(self):
        self.assertEqual(answered(begin(100), put(1, 101), hold(1), look(1))[3], [1, 1, 0, 0])

    def test_one_that_is_due_now(self):
        self.assertEqual(answered(begin(100), put(1, 100, 20, 7), hold(1), look(1))[2:], [[0], [1, 0, 20, 7]])

    def test_one_that_is_past(self):
        for at in (99, 1, 0):
            self.assertEqual(answered(begin(100), put(1, at, 20, 7), hold(1), look(1))[2:], [[0], [1, 0, 20, 7]])

    def test_highest_numbers(self):
        got = answered(put(TOP_NAME, TOP_TIME, TOP_TIME, TOP_NAME), hold(TOP_NAME), look(TOP_NAME))
        self.assertEqual(got[1:], [[0], [1, TOP_TIME, TOP_TIME, TOP_NAME]])

    def test_time_goes_on_and_it_does_not_come(self):
        got = answered(put(1, 30, 5), put(2, 40), time(10), hold(1), time(29), time(30), time(1000), look(1), count())
        self.assertEqual(got[4:], [[0], [0], [1, 2, 0, 40, 0], [1, 20, 5, 0], [0, 1]])

    def test_there_is_none(self):
        got = answered(put(1, 10), hold(2), count(), away(1), hold(1))
        self.assertEqual(got[1:], [[-2], [1, 0], [0], [-2]])

    def test_one_that_has_come(self):
        self.assertEqual(answered(put(1, 10), time(10), hold(1))[2], [-2])

    def test_one_that_is_held(self):
        got = answered(put(1, 10), time(4), hold(1), time(6), hold(1), look(1), count())
        self.assertEqual(got[4:], [[-4], [1, 6, 0, 0], [0, 1]])

    def test_a_name_that_is_too_high_is_nobodys(self):
        for name in TOO_HIGH_NAMES:
            self.assertEqual(answered(put(0, 10), put(TOP_NAME, 10), hold(name), count())[2:], [[-2], [2, 0]])

    def test_the_others_of_its_time_stay(self):
        got = answered(put(1, 10), put(2, 10), put(3, 10), hold(2), listed())
        self.assertEqual(names_of(got[4]), [1, 3])


class GoOn(unittest.TestCase):
    def test_due_at_now_and_what_was_left(self):
        got = answered(put(1, 30, 5, 7), time(10), hold(1), time(100), go_on(1), look(1), time(119), time(120), look(1))
        self.assertEqual(got[4:], [[0], [0, 0, 120, 5, 7], [0], [1, 1, 7, 120, 0], [0, 0, 125, 5, 7]])

    def test_at_once(self):
        got = answered(put(1, 30), time(10), hold(1), go_on(1), look(1), count())
        self.assertEqual(got[3:], [[0], [0, 0, 30, 0, 0], [1, 0]])

    def test_nothing_was_left(self):
        got = answered(time(100), put(1, 10), hold(1), go_on(1), look(1), time(100))
        self.assertEqual(got[3:], [[0], [0, 0, 100, 0, 0], [1, 1, 0, 100, 0]])

    def test_behind_those_of_the_same_time(self):
        got = answered(put(1, 30), put(2, 30), put(3, 31), hold(1), go_on(1), put(4, 30), listed())
        self.assertEqual(names_of(got[6]), [2, 1, 4, 3])

    def test_several_as_they_go_on(self):
        got = answered(put(1, 30), put(2, 30), put(3, 30), hold(1), hold(2), hold(3), go_on(3), go_on(1), go_on(2),
                       listed())
        self.assertEqual(names_of(got[9]), [3, 1, 2])

    def test_to_just_the_highest_time(self):
        got = answered(put(1, 30), hold(1), time(TOP_TIME - 30), go_on(1), look(1))
        self.assertEqual(got[3:], [[0], [0, 0, TOP_TIME, 0, 0]])
        self.assertEqual(answered(put(1, TOP_TIME), hold(1), go_on(1), first())[2:], [[0], [0, TOP_TIME]])

    def test_to_one_more(self):
        got = answered(put(1, 30, 5, 7), hold(1), time(TOP_TIME - 29), go_on(1), look(1), count(), first(), hold(1))
        self.assertEqual(got[3:], [[-1], [1, 30, 5, 7], [0, 1], [-2], [-4]])
        got = answered(put(1, TOP_TIME), hold(1), time(1), go_on(1), time(TOP_TIME), go_on(1), look(1))
        self.assertEqual(got[3:], [[-1], [0], [-1], [1, TOP_TIME, 0, 0]])

    def test_there_is_none(self):
        got = answered(go_on(1), put(1, 10), go_on(2), hold(1), away(1), go_on(1))
        self.assertEqual(got, [[-2], [0], [-2], [0], [0], [-2]])

    def test_one_that_is_not_held(self):
        got = answered(put(1, 10), put(2, 10), go_on(1), listed(), hold(1), go_on(1), go_on(1), listed())
        self.assertEqual(got[2:4], [[-4], [2, 1, 10, 0, 0, 2, 10, 0, 0]])
        self.assertEqual(got[5:], [[0], [-4], [2, 2, 10, 0, 0, 1, 10, 0, 0]])

    def test_one_that_is_not_held_and_too_late(self):
        got = answered(put(1, TOP_TIME), hold(1), go_on(1), time(5), go_on(1), look(1))
        self.assertEqual(got[4:], [[-4], [0, 0, TOP_TIME, 0, 0]])

    def test_a_name_that_is_too_high_is_nobodys(self):
        for name in TOO_HIGH_NAMES:
            got = answered(put(0, 10), put(TOP_NAME, 10), hold(0), hold(TOP_NAME), go_on(name), count())
            self.assertEqual(got[4:], [[-2], [0, 2]])

    def test_held_and_gone_on_more_than_once(self):
        got = answered(put(1, 30), time(10), hold(1), time(50), go_on(1), time(65), hold(1), look(1), time(80), go_on(1),
                       look(1))
        self.assertEqual(got[7], [1, 5, 0, 0])
        self.assertEqual(got[10], [0, 0, 85, 0, 0])


class HeldOnes(unittest.TestCase):
    """It's 5; timer 1 is held with 7 left, timer 2 waits."""

    def behind(self, *calls):
        ahead = (begin(5), put(1, 12, 20, 30), put(2, 40, 50, 60), hold(1))
        return answered(*ahead, *calls)[len(ahead):]

    def test_look(self):
        self.assertEqual(self.behind(look(1)), [[1, 7, 20, 30]])

    def test_it_is_before_nobody(self):
        self.assertEqual(self.behind(look(2)), [[0, 0, 40, 50, 60]])

    def test_next_passes_it_over(self):
        self.assertEqual(self.behind(first(), hold(2), first(), go_on(1), first()), [[0, 40], [0], [-2], [0], [0, 12]])

    def test_set_by_its_name(self):
        got = self.behind(put(1, 50, 1, 2), look(1), count(), away_all(30), go_on(1), time(50))
        self.assertEqual(got, [[1], [0, 1, 50, 1, 2], [2, 0], [0], [-4], [2, 2, 60, 40, 0, 1, 2, 50, 0]])

    def test_after_by_its_name(self):
        got = self.behind(after(1, 3), look(1), count(), away_all(30), go_on(1))
        self.assertEqual(got, [[1], [0, 0, 8, 0, 0], [2, 0], [0], [-4]])

    def test_one_set_anew_is_held_with_its_own_time(self):
        self.assertEqual(self.behind(put(1, 50), hold(1), look(1)), [[1], [0], [1, 45, 0, 0]])

    def test_a_refused_set_leaves_it(self):
        got = self.behind(put(1, TOP_NUMBER), after(1, TOP_TIME), look(1), count())
        self.assertEqual(got, [[-1], [-1], [1, 7, 20, 30], [1, 1]])

    def test_away(self):
        got = self.behind(away(1), look(1), look(2), count(), away(1), go_on(1))
        self.assertEqual(got, [[0], [-2], [0, 0, 40, 50, 60], [1, 0], [-2], [-2]])

    def test_away_all(self):
        got = self.behind(put(3, 5, 0, 30), put(4, 6, 0, 60), hold(4), away_all(30), look(1), look(3), count(),
                          away_all(60), count())
        self.assertEqual(got[3:], [[2], [-2], [-2], [1, 1], [2], [0, 0]])

    def test_begin(self):
        self.assertEqual(self.behind(begin(0), look(1), count(), put(1, 3)), [[0], [-2], [0, 0], [0]])

    def test_refused_calls_leave_it(self):
        got = self.behind(later(1, 1), hold(1), time(4), time(TOP_NUMBER), look(1), go_on(1), look(1))
        self.assertEqual(got, [[-4], [-4], [-4], [-1], [1, 7, 20, 30], [0], [0, 0, 12, 20, 30]])


if __name__ == "__main__":
    unittest.main()
