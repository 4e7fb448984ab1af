"""What a list of calls can't reach: the most timers there may be."""

import unittest

from duetimers.book import TimerBook
from support import TOP_NAME, TOP_NUMBER, TOP_TIME, first_difference

MOST = 65536


def full_book(every=0):
    book = TimerBook()
    for name in range(MOST):
        if book.put(name, 10, every, name % 2) != [0]:
            raise AssertionError(f"timer {name} was not taken")
    return book


class Full(unittest.TestCase):
    def test_a_new_name_is_refused_and_all_is_as_it_was(self):
        book = full_book()
        self.assertEqual(book.put(MOST, 1, 0, 0), [-5])
        self.assertEqual(book.put_after(MOST, 1, 0, 0), [-5])
        self.assertEqual(book.look(MOST), [-2])
        self.assertEqual(book.first_due(), [0, 10])
        self.assertEqual(book.look(MOST - 1), [0, MOST - 1, 10, 0, 1])

    def test_a_name_that_is_there_may_be_set(self):
        book = full_book()
        self.assertEqual(book.put(0, 10, 3, 4), [1])
        self.assertEqual(book.look(0), [0, MOST - 1, 10, 3, 4])
        self.assertEqual(book.put_after(1, 10, 5, 6), [1])
        self.assertEqual(book.look(1), [0, MOST - 1, 10, 5, 6])
        self.assertEqual(book.put(MOST, 1, 0, 0), [-5])

    def test_a_number_that_is_too_high_is_told_first(self):
        book = full_book()
        self.assertEqual(book.put(TOP_NAME + 1, 1, 0, 0), [-1])
        self.assertEqual(book.put(MOST, TOP_TIME + 1, 0, 0), [-1])
        self.assertEqual(book.put(MOST, 1, TOP_NUMBER, 0), [-1])
        self.assertEqual(book.put_after(MOST, TOP_TIME + 1, 0, 0), [-1])
        self.assertEqual(book.put_after(MOST, 1, 0, TOP_NAME + 1), [-1])

    def test_there_is_room_again_for_as_many_as_are_gone(self):
        book = full_book()
        self.assertEqual(book.away(5), [0])
        self.assertEqual(book.put(MOST, 1, 0, 0), [0])
        self.assertEqual(book.put(5, 1, 0, 0), [-5])
        self.assertEqual(book.away_all(1), [MOST // 2 - 1])
        self.assertEqual(book.put(5, 1, 0, 0), [0])
        self.assertEqual(book.begin(0), [0])
        self.assertEqual(book.put(MOST + 1, 1, 0, 0), [0])

    def test_held_ones_are_among_them(self):
        book = full_book()
        self.assertEqual(book.hold(0), [0])
        self.assertEqual(book.how_many(), [MOST - 1, 1])
        self.assertEqual(book.put(MOST, 1, 0, 0), [-5])
        self.assertEqual(book.put(0, 1, 0, 0), [1])
        self.assertEqual(book.put(MOST, 1, 0, 0), [-5])
        self.assertEqual(book.hold(5), [0])
        self.assertEqual(book.away(5), [0])
        self.assertEqual(book.put(MOST, 1, 0, 0), [0])


class AllDue(unittest.TestCase):
    """More may be due than one list of calls can set."""

    def test_as_many_come_as_there_are(self):
        want = [MOST] + [number for name in range(MOST) for number in (name, name % 2, 10, 0)]
        for most in (MOST, MOST + 1, TOP_NUMBER):
            book = full_book()
            self.assertIsNone(first_difference(book.come_due(10, most), want))
            self.assertEqual(book.how_many(), [0, 0])
            self.assertEqual(book.put(MOST, 1, 0, 0), [0])

    def test_the_rest_come_at_the_next_time(self):
        book = full_book()
        self.assertEqual(book.come_due(10, MOST - 1)[0], MOST - 1)
        self.assertEqual(book.how_many(), [1, 0])
        self.assertEqual(book.come_due(10, MOST - 1), [1, MOST - 1, 1, 10, 0])

    def test_those_due_again_come_once_and_stay(self):
        book = full_book(every=1)
        self.assertEqual(book.come_due(1000, TOP_NUMBER)[:5], [MOST, 0, 0, 10, 990])
        self.assertEqual(book.how_many(), [MOST, 0])
        self.assertEqual(book.put(MOST, 1, 0, 0), [-5])
        self.assertEqual(book.in_order(MOST - 1, TOP_NUMBER), [1, MOST - 1, 1001, 1, 1])


if __name__ == "__main__":
    unittest.main()
