"""Promise 10."""

import unittest

from support import (TOO_HIGH_NAMES, TOP_NAME, TOP_NUMBER, TOP_TIME, answered, begin, count, first, hold, later, listed,
                     look, names_of, put, time)


class Later(unittest.TestCase):
    def test_by_more(self):
        got = answered(put(1, 10, 20, 30), put(2, 12), later(1, 5), look(1), first())
        self.assertEqual(got[2:], [[0], [0, 1, 15, 20, 30], [0, 12]])

    def test_by_0_it_is_set_anew(self):
        got = answered(put(1, 10, 2, 3), put(2, 10), put(3, 11), later(1, 0), listed())
        self.assertEqual(got[3:], [[0], [3, 2, 10, 0, 0, 1, 10, 2, 3, 3, 11, 0, 0]])

    def test_behind_those_of_the_same_time(self):
        got = answered(put(1, 10), put(2, 15), put(3, 15), later(1, 5), put(4, 15), listed())
        self.assertEqual(names_of(got[5]), [2, 3, 1, 4])

    def test_more_than_once(self):
        got = answered(put(1, 10), put(2, 10), later(1, 5), later(2, 5), later(1, 0), listed())
        self.assertEqual(got[5], [2, 2, 15, 0, 0, 1, 15, 0, 0])

    def test_one_that_is_past(self):
        got = answered(begin(100), put(1, 10), later(1, 5), look(1), later(1, 100), look(1), time(114), time(115))
        self.assertEqual(got[2:], [[0], [0, 0, 15, 0, 0], [0], [0, 0, 115, 0, 0], [0], [1, 1, 0, 115, 0]])

    def test_one_that_is_due_again(self):
        got = answered(put(1, 10, 10), later(1, 3), time(13), look(1))
        self.assertEqual(got[2:], [[1, 1, 0, 13, 0], [0, 0, 23, 10, 0]])

    def test_it_comes_only_then(self):
        got = answered(put(1, 10), later(1, 5), time(14), time(15), time(16))
        self.assertEqual(got[2:], [[0], [1, 1, 0, 15, 0], [0]])

    def test_to_just_the_highest_time(self):
        for at in (0, 1, 100, TOP_TIME - 1, TOP_TIME):
            got = answered(put(1, at), later(1, TOP_TIME - at), look(1))
            self.assertEqual(got[1:], [[0], [0, 0, TOP_TIME, 0, 0]])

    def test_to_one_more_and_beyond(self):
        for at in (0, 1, 100, TOP_TIME - 1, TOP_TIME):
            for by in (TOP_TIME - at + 1, TOP_TIME + 1, TOP_NUMBER):
                got = answered(put(1, at, 2, 3), put(2, at), later(1, by), listed(), count())
                self.assertEqual(got[2:], [[-1], [2, 1, at, 2, 3, 2, at, 0, 0], [2, 0]])

    def test_there_is_none(self):
        got = answered(put(1, 10), later(2, 5), later(2, TOP_NUMBER), later(0, 0), listed())
        self.assertEqual(got[1:], [[-2], [-2], [-2], [1, 1, 10, 0, 0]])

    def test_a_held_one(self):
        got = answered(put(1, 10), hold(1), later(1, 5), later(1, 0), later(1, TOP_NUMBER), later(1, TOP_TIME), look(1),
                       count())
        self.assertEqual(got[2:], [[-4], [-4], [-4], [-4], [1, 10, 0, 0], [0, 1]])

    def test_the_highest_name(self):
        self.assertEqual(answered(put(TOP_NAME, 10), later(TOP_NAME, 5), first()), [[0], [0], [0, 15]])

    def test_a_name_that_is_too_high_is_nobodys(self):
        for name in TOO_HIGH_NAMES:
            got = answered(put(0, 10), put(TOP_NAME, 10), later(name, 5), later(name, TOP_NUMBER), listed())
            self.assertEqual(got[2:], [[-2], [-2], [2, 0, 10, 0, 0, TOP_NAME, 10, 0, 0]])


if __name__ == "__main__":
    unittest.main()
