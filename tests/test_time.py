"""Promise 8."""

import unittest

from support import (TOO_HIGH_TIMES, TOP_NAME, TOP_NUMBER, TOP_TIME, after, answered, away_all, begin, count, first, hold,
                     listed, look, names_of, put, time)


class Now(unittest.TestCase):
    def test_it_is_now(self):
        self.assertEqual(answered(time(100), after(1, 7), first()), [[0], [0], [0, 107]])

    def test_the_same_again(self):
        self.assertEqual(answered(time(100), time(100), after(1, 7), first()), [[0], [0], [0], [0, 107]])
        self.assertEqual(answered(begin(100), time(100), after(1, 7), first()), [[0], [0], [0], [0, 107]])
        self.assertEqual(answered(time(0), after(1, 7), first()), [[0], [0], [0, 7]])

    def test_the_same_again_and_one_that_is_due_since(self):
        got = answered(time(100), put(1, 100), time(100), time(100))
        self.assertEqual(got, [[0], [0], [1, 1, 0, 100, 0], [0]])

    def test_one_that_is_earlier(self):
        for now in (99, 1, 0):
            got = answered(put(1, 200, 3, 4), put(2, 200), put(3, 150), time(100), put(4, 50), time(now),
                           listed(), count(), after(5, 7), look(5))
            self.assertEqual(got[5:7], [[-4], [4, 4, 50, 0, 0, 3, 150, 0, 0, 1, 200, 3, 4, 2, 200, 0, 0]])
            self.assertEqual(got[7:], [[4, 0], [0], [0, 1, 107, 0, 0]])

    def test_one_that_is_earlier_than_begin_told(self):
        self.assertEqual(answered(begin(100), time(99), after(1, 7), first()), [[0], [-4], [0], [0, 107]])

    def test_after_begin_it_is_as_begin_told(self):
        self.assertEqual(answered(time(100), begin(10), time(9), time(10)), [[0], [0], [-4], [0]])

    def test_the_highest(self):
        got = answered(put(1, TOP_TIME), time(TOP_TIME), after(2, 0), time(TOP_TIME), time(TOP_TIME - 1))
        self.assertEqual(got, [[0], [1, 1, 0, TOP_TIME, 0], [0], [1, 2, 0, TOP_TIME, 0], [-4]])

    def test_one_that_is_too_high(self):
        for now in TOO_HIGH_TIMES:
            got = answered(time(100), put(1, 50), put(2, 200), time(now), listed(), after(3, 7), look(3))
            self.assertEqual(got[3:], [[-1], [2, 1, 50, 0, 0, 2, 200, 0, 0], [0], [0, 1, 107, 0, 0]])

    def test_most_is_no_time(self):
        self.assertEqual(answered(time(TOP_TIME + 1, 0), time(5, TOP_NUMBER), time(4, TOP_NUMBER)), [[-1], [0], [-4]])


class Due(unittest.TestCase):
    def test_just_now_and_one_later(self):
        got = answered(put(1, 100, 0, 7), put(2, 101, 0, 8), time(99), time(100), time(100), time(101), time(101))
        self.assertEqual(got[2:], [[0], [1, 1, 7, 100, 0], [0], [1, 2, 8, 101, 0], [0]])

    def test_one_at_0(self):
        self.assertEqual(answered(put(1, 0), time(0)), [[0], [1, 1, 0, 0, 0]])

    def test_one_set_for_a_time_that_is_past(self):
        self.assertEqual(answered(begin(100), put(1, 30, 0, 5), time(100)), [[0], [0], [1, 1, 5, 30, 0]])

    def test_none(self):
        self.assertEqual(answered(time(5), put(1, 10), time(9), count()), [[0], [0], [0], [1, 0]])

    def test_highest_numbers(self):
        got = answered(put(TOP_NAME, TOP_TIME, TOP_TIME, TOP_NAME), time(TOP_TIME), look(TOP_NAME))
        self.assertEqual(got, [[0], [1, TOP_NAME, TOP_NAME, TOP_TIME, 0], [-2]])

    def test_in_order(self):
        got = answered(put(1, 30), put(2, 10), put(3, 30), put(4, 20), put(5, 10), put(6, 31), put(1, 30), time(30))
        self.assertEqual(got[7], [5, 2, 0, 10, 0, 5, 0, 10, 0, 4, 0, 20, 0, 3, 0, 30, 0, 1, 0, 30, 0])

    def test_a_held_one_does_not_come(self):
        got = answered(put(1, 10), put(2, 10), hold(1), time(500), count(), look(1))
        self.assertEqual(got[3:], [[1, 2, 0, 10, 0], [0, 1], [1, 10, 0, 0]])


class ForOnce(unittest.TestCase):
    def test_it_is_gone_then(self):
        got = answered(put(1, 10, 0, 7), put(2, 99, 0, 7), time(50), look(1), listed(), count(), first(), time(60),
                       away_all(7))
        self.assertEqual(got[2:], [[1, 1, 7, 10, 0], [-2], [1, 2, 99, 0, 7], [1, 0], [0, 99], [0], [1]])

    def test_its_name_is_free_again(self):
        self.assertEqual(answered(put(1, 10), time(50), put(1, 60), look(1))[2:], [[0], [0, 0, 60, 0, 0]])


class DueAgain(unittest.TestCase):
    def again(self, due, every, now):
        """How often it's left out, and when it's due again, or None if it's gone."""
        got = answered(put(1, due, every, 9), time(now), look(1), time(now), count())
        self.assertEqual(got[1][:4], [1, 1, 9, due])
        self.assertEqual(got[3], [0])
        if got[2] == [-2]:
            self.assertEqual(got[4], [0, 0])
            return got[1][4], None
        self.assertEqual(got[4], [1, 0])
        self.assertEqual(got[2], [0, 0, got[2][2], every, 9])
        return got[1][4], got[2][2]

    def test_left_out_0_times(self):
        self.assertEqual(self.again(100, 10, 100), (0, 110))
        self.assertEqual(self.again(100, 10, 101), (0, 110))
        self.assertEqual(self.again(100, 10, 109), (0, 110))

    def test_left_out_once(self):
        self.assertEqual(self.again(100, 10, 110), (1, 120))
        self.assertEqual(self.again(100, 10, 119), (1, 120))

    def test_left_out_many_times(self):
        self.assertEqual(self.again(100, 10, 120), (2, 130))
        self.assertEqual(self.again(100, 10, 1099), (99, 1100))
        self.assertEqual(self.again(100, 10, 1100), (100, 1110))

    def test_every_of_1_and_a_time_far_in_the_past(self):
        self.assertEqual(self.again(0, 1, 10 ** 15), (10 ** 15, 10 ** 15 + 1))
        self.assertEqual(self.again(7, 1, 10 ** 18), (10 ** 18 - 7, 10 ** 18 + 1))
        self.assertEqual(self.again(0, 1, TOP_TIME - 1), (TOP_TIME - 1, TOP_TIME))
        self.assertEqual(self.again(0, 1, TOP_TIME), (TOP_TIME, None))

    def test_numbers_are_whole_however_high(self):
        self.assertEqual(self.again(1, 3, TOP_TIME - 2), (3074457345618258601, TOP_TIME))
        self.assertEqual(self.again(0, 10 ** 9 + 7, 10 ** 18), (999999993, (10 ** 9 + 7) * 999999994))

    def test_due_again_just_at_the_highest_time(self):
        self.assertEqual(self.again(TOP_TIME - 10, 10, TOP_TIME - 10), (0, TOP_TIME))
        self.assertEqual(self.again(TOP_TIME - 10, 10, TOP_TIME - 1), (0, TOP_TIME))
        self.assertEqual(self.again(TOP_TIME - 30, 10, TOP_TIME - 1), (2, TOP_TIME))
        self.assertEqual(self.again(0, TOP_TIME, 0), (0, TOP_TIME))
        self.assertEqual(self.again(0, TOP_TIME, TOP_TIME - 1), (0, TOP_TIME))

    def test_due_again_one_beyond_the_highest_time(self):
        self.assertEqual(self.again(TOP_TIME - 9, 10, TOP_TIME - 9), (0, None))
        self.assertEqual(self.again(TOP_TIME - 9, 10, TOP_TIME), (0, None))
        self.assertEqual(self.again(TOP_TIME - 29, 10, TOP_TIME), (2, None))
        self.assertEqual(self.again(1, TOP_TIME, 1), (0, None))
        self.assertEqual(self.again(TOP_TIME, 1, TOP_TIME), (0, None))
        self.assertEqual(self.again(TOP_TIME, TOP_TIME, TOP_TIME), (0, None))
        self.assertEqual(self.again(0, TOP_TIME, TOP_TIME), (1, None))

    def test_one_that_is_gone_is_gone_altogether(self):
        got = answered(put(1, TOP_TIME, 1, 5), time(TOP_TIME), count(), listed(), first(), away_all(5), put(1, 3))
        self.assertEqual(got[2:], [[0, 0], [0], [-2], [0], [0]])

    def test_it_comes_again_and_again(self):
        got = answered(put(1, 10, 10, 3), time(10), time(19), time(20), time(55), time(60), first())
        self.assertEqual(got[1:], [[1, 1, 3, 10, 0], [0], [1, 1, 3, 20, 0], [1, 1, 3, 30, 2], [1, 1, 3, 60, 0], [0, 70]])


class SetAsItComes(unittest.TestCase):
    def test_behind_one_that_stood_at_that_time_before(self):
        got = answered(put(1, 10, 10), put(2, 20), time(10), listed())
        self.assertEqual(names_of(got[3]), [2, 1])

    def test_two_to_the_same_time_in_the_order_in_which_they_come(self):
        # 5 was set behind 4 but comes ahead of it; both are due at 40 again.
        got = answered(put(4, 20, 20), put(5, 10, 30), put(9, 40), time(20), listed())
        self.assertEqual(names_of(got[3]), [5, 4])
        self.assertEqual(got[4], [3, 9, 40, 0, 0, 5, 40, 30, 0, 4, 40, 20, 0])

    def test_of_one_time_as_they_were_set(self):
        got = answered(put(3, 10, 5), put(1, 10, 5), put(2, 10, 5), time(12), listed(), time(15), listed())
        self.assertEqual([names_of(answer) for answer in got[3:]], [[3, 1, 2]] * 4)

    def test_to_different_times(self):
        got = answered(put(1, 10, 50), put(2, 11, 5), put(3, 12), put(4, 13, 20), time(13), listed())
        self.assertEqual(got[5], [3, 2, 16, 5, 0, 4, 33, 20, 0, 1, 60, 50, 0])

    def test_one_set_then_for_that_time_stands_behind(self):
        got = answered(put(1, 10, 10), time(10), put(2, 20), listed())
        self.assertEqual(names_of(got[3]), [1, 2])


class Most(unittest.TestCase):
    def come(self, most):
        """Three of four are due, two of them again at 120."""
        return answered(put(1, 10, 110), put(2, 20), put(3, 20, 100), put(4, 120), time(50, most), listed(),
                        time(50, most), after(5, 0), look(5))[4:]

    def test_none(self):
        got = self.come(0)
        self.assertEqual(got[0], [0])
        self.assertEqual(names_of(got[1]), [1, 2, 3, 4])
        self.assertEqual(got[2], [0])
        self.assertEqual(got[4], [0, 3, 50, 0, 0])

    def test_fewer_than_are_due(self):
        got = self.come(2)
        self.assertEqual(got[0], [2, 1, 0, 10, 0, 2, 0, 20, 0])
        self.assertEqual(got[1], [3, 3, 20, 100, 0, 4, 120, 0, 0, 1, 120, 110, 0])
        self.assertEqual(got[2], [1, 3, 0, 20, 0])
        self.assertEqual(got[4], [0, 0, 50, 0, 0])

    def test_one(self):
        got = self.come(1)
        self.assertEqual(got[0], [1, 1, 0, 10, 0])
        self.assertEqual(names_of(got[1]), [2, 3, 4, 1])
        self.assertEqual(got[2], [1, 2, 0, 20, 0])

    def test_as_many_as_are_due_and_more(self):
        for most in (3, 4, 5, 65535, 65536, 65537, TOP_TIME + 1, TOP_NUMBER):
            got = self.come(most)
            self.assertEqual(got[0], [3, 1, 0, 10, 0, 2, 0, 20, 0, 3, 0, 20, 0])
            self.assertEqual(got[1], [3, 4, 120, 0, 0, 1, 120, 110, 0, 3, 120, 100, 0])
            self.assertEqual(got[2], [0])

    def test_it_is_now_where_none_may_come(self):
        self.assertEqual(answered(put(1, 10), time(50, 0), time(49, 0), time(50, 1)),
                         [[0], [0], [-4], [1, 1, 0, 10, 0]])

    def test_the_rest_come_at_the_next_time(self):
        got = answered(*[put(name, 10 + name) for name in range(7)], time(100, 3), count(), time(200, 3), time(200, 3),
                       time(200, 3))
        self.assertEqual([names_of(got[place]) for place in (7, 9, 10, 11)], [[0, 1, 2], [3, 4, 5], [6], []])
        self.assertEqual(got[8], [4, 0])

    def test_what_is_left_out_counts_by_the_time_at_which_it_comes(self):
        got = answered(put(1, 10, 10), put(2, 10, 10), time(10, 1), time(35, 5), first())
        self.assertEqual(got[2:], [[1, 1, 0, 10, 0], [2, 2, 0, 10, 2, 1, 0, 20, 1], [0, 40]])


if __name__ == "__main__":
    unittest.main()
