"""Promises 6 and 7."""

import unittest

from support import TOO_HIGH_NAMES, TOP_NAME, TOP_TIME, answered, away, begin, first, look, put


class Look(unittest.TestCase):
    def test_when_it_is_due_every_and_its_tag(self):
        self.assertEqual(answered(put(1, 10, 20, 30), look(1)), [[0], [0, 0, 10, 20, 30]])

    def test_how_many_are_before_it(self):
        got = answered(put(1, 30), put(2, 10), put(3, 30), put(4, 20), put(5, 40), *[look(name) for name in range(1, 6)])
        self.assertEqual([answer[1] for answer in got[5:]], [2, 0, 3, 1, 4])

    def test_those_gone_are_not_before_it(self):
        got = answered(put(1, 10), put(2, 20), put(3, 30), look(3), away(1), look(3), put(2, 40), look(3))
        self.assertEqual([got[3][1], got[5][1], got[7][1]], [2, 1, 0])

    def test_it_changes_nothing(self):
        got = answered(put(1, 10), put(2, 10), look(1), look(1), look(2), first())
        self.assertEqual(got[2:], [[0, 0, 10, 0, 0], [0, 0, 10, 0, 0], [0, 1, 10, 0, 0], [0, 10]])

    def test_there_is_none(self):
        self.assertEqual(answered(look(1), put(1, 10), look(10), look(0)), [[-2], [0], [-2], [-2]])

    def test_a_name_that_is_too_high_is_nobodys(self):
        for name in TOO_HIGH_NAMES:
            self.assertEqual(answered(put(0, 10), put(TOP_NAME, 10), look(name)), [[0], [0], [-2]])


class Next(unittest.TestCase):
    def test_when_the_first_is_due(self):
        got = answered(put(1, 30), first(), put(2, 10), first(), put(3, 20), first(), away(2), first())
        self.assertEqual(got[1::2], [[0, 30], [0, 10], [0, 10], [0, 20]])

    def test_one_that_is_past(self):
        self.assertEqual(answered(begin(100), put(1, 30), first()), [[0], [0], [0, 30]])

    def test_it_changes_nothing(self):
        self.assertEqual(answered(put(1, 30), first(), first(), look(1))[1:], [[0, 30], [0, 30], [0, 0, 30, 0, 0]])

    def test_lowest_and_highest_time(self):
        self.assertEqual(answered(put(1, TOP_TIME), first(), put(1, 0), first()), [[0], [0, TOP_TIME], [1], [0, 0]])

    def test_none_is_waiting(self):
        self.assertEqual(answered(first(), put(1, 30), away(1), first()), [[-2], [0], [0], [-2]])


if __name__ == "__main__":
    unittest.main()
