"""Promises 4 and 5."""

import unittest

from support import TOO_HIGH_NAMES, TOP_NAME, answered, away, away_all, first, look, put


class Away(unittest.TestCase):
    def test_it_is_gone(self):
        got = answered(put(1, 10), put(2, 20), away(1), look(1), first(), look(2), away(1))
        self.assertEqual(got[2:], [[0], [-2], [0, 20], [0, 0, 20, 0, 0], [-2]])

    def test_the_others_of_its_time_stay(self):
        got = answered(put(1, 10), put(2, 10), put(3, 10), away(2), look(1), look(2), look(3))
        self.assertEqual(got[3:], [[0], [0, 0, 10, 0, 0], [-2], [0, 1, 10, 0, 0]])

    def test_the_last_one(self):
        self.assertEqual(answered(put(1, 10), away(1), first()), [[0], [0], [-2]])

    def test_there_is_none(self):
        got = answered(put(1, 10, 3, 2), away(2), look(1), first())
        self.assertEqual(got, [[0], [-2], [0, 0, 10, 3, 2], [0, 10]])

    def test_the_highest_name(self):
        self.assertEqual(answered(put(TOP_NAME, 10), away(TOP_NAME), look(TOP_NAME)), [[0], [0], [-2]])

    def test_a_name_that_is_too_high_is_nobodys(self):
        for name in TOO_HIGH_NAMES:
            got = answered(put(0, 10), put(TOP_NAME, 20), away(name), look(0), look(TOP_NAME))
            self.assertEqual(got[2:], [[-2], [0, 0, 10, 0, 0], [0, 1, 20, 0, 0]])


class AwayAll(unittest.TestCase):
    def test_several_have_the_tag(self):
        got = answered(put(1, 40, 0, 7), put(2, 30, 0, 8), put(3, 20, 0, 7), put(4, 10, 0, 7),
                       away_all(7), look(1), look(2), look(3), look(4), first(), away_all(7))
        self.assertEqual(got[4:], [[3], [-2], [0, 0, 30, 0, 8], [-2], [-2], [0, 30], [0]])

    def test_one_has_the_tag(self):
        got = answered(put(1, 10, 0, 7), put(2, 20, 0, 8), away_all(8), look(1), look(2))
        self.assertEqual(got[2:], [[1], [0, 0, 10, 0, 7], [-2]])

    def test_none_has_the_tag(self):
        got = answered(put(1, 10, 0, 7), away_all(1), away_all(10), away_all(0), look(1))
        self.assertEqual(got[1:], [[0], [0], [0], [0, 0, 10, 0, 7]])

    def test_all_have_the_tag(self):
        got = answered(put(1, 10), put(2, 10), put(3, 10), away_all(0), first())
        self.assertEqual(got[3:], [[3], [-2]])

    def test_the_tag_of_one_set_anew(self):
        got = answered(put(1, 10, 0, 7), put(1, 10, 0, 8), away_all(7), away_all(8), first())
        self.assertEqual(got[2:], [[0], [1], [-2]])

    def test_the_highest_tag(self):
        self.assertEqual(answered(put(1, 10, 0, TOP_NAME), away_all(TOP_NAME), look(1)), [[0], [1], [-2]])

    def test_a_tag_that_is_too_high_is_nobodys(self):
        for tag in TOO_HIGH_NAMES:
            got = answered(put(1, 10), put(2, 10, 0, TOP_NAME), away_all(tag), look(1), look(2))
            self.assertEqual(got[2:], [[0], [0, 0, 10, 0, 0], [0, 1, 10, 0, TOP_NAME]])


if __name__ == "__main__":
    unittest.main()
