"""What a list of calls can't reach: the most timers there may be, and held ones."""

import unittest

from duetimers.book import TimerBook
from support import TOP_NAME, TOP_NUMBER, TOP_TIME

MOST = 65536


def full_book():
    book = TimerBook()
    for name in range(MOST):
        if book.put(name, 10, 0, name % 2) != [0]:
            raise AssertionError(f"timer {name} was not taken")
    return book


def hold_by_hand(book, name, left):
    timer = book.by_name[name]
    book.leave_line(timer)
    timer.held = True
    timer.left = left


class Full(unittest.TestCase):
    def test_a_new_name_is_refused_and_all_is_as_it_was(self):
        book = full_book()
        self.assertEqual(book.put(MOST, 1, 0, 0), [-5])
        self.assertEqual(book.put_after(MOST, 1, 0, 0), [-5])
        self.assertEqual(book.look(MOST), [-2])
        self.assertEqual(book.first_due(), [0, 10])
        self.assertEqual(book.look(MOST - 1), [0, MOST - 1, 10, 0, 1])

    def test_a_name_that_is_there_may_be_set(self):
        book = full_book()
        self.assertEqual(book.put(0, 10, 3, 4), [1])
        self.assertEqual(book.look(0), [0, MOST - 1, 10, 3, 4])
        self.assertEqual(book.put_after(1, 10, 5, 6), [1])
        self.assertEqual(book.look(1), [0, MOST - 1, 10, 5, 6])
        self.assertEqual(book.put(MOST, 1, 0, 0), [-5])

    def test_a_number_that_is_too_high_is_told_first(self):
        book = full_book()
        self.assertEqual(book.put(TOP_NAME + 1, 1, 0, 0), [-1])
        self.assertEqual(book.put(MOST, TOP_TIME + 1, 0, 0), [-1])
        self.assertEqual(book.put(MOST, 1, TOP_NUMBER, 0), [-1])
        self.assertEqual(book.put_after(MOST, TOP_TIME + 1, 0, 0), [-1])
        self.assertEqual(book.put_after(MOST, 1, 0, TOP_NAME + 1), [-1])

    def test_there_is_room_again_for_as_many_as_are_gone(self):
        book = full_book()
        self.assertEqual(book.away(5), [0])
        self.assertEqual(book.put(MOST, 1, 0, 0), [0])
        self.assertEqual(book.put(5, 1, 0, 0), [-5])
        self.assertEqual(book.away_all(1), [MOST // 2 - 1])
        self.assertEqual(book.put(5, 1, 0, 0), [0])
        self.assertEqual(book.begin(0), [0])
        self.assertEqual(book.put(MOST + 1, 1, 0, 0), [0])

    def test_held_ones_are_among_them(self):
        book = full_book()
        hold_by_hand(book, 0, 7)
        self.assertEqual(book.put(MOST, 1, 0, 0), [-5])
        self.assertEqual(book.put(0, 1, 0, 0), [1])
        self.assertEqual(book.put(MOST, 1, 0, 0), [-5])


class Held(unittest.TestCase):
    def setUp(self):
        self.book = TimerBook()
        self.book.put(1, 10, 20, 30)
        self.book.put(2, 40, 50, 60)
        hold_by_hand(self.book, 1, 7)

    def test_look(self):
        self.assertEqual(self.book.look(1), [1, 7, 20, 30])

    def test_it_is_before_nobody(self):
        self.assertEqual(self.book.look(2), [0, 0, 40, 50, 60])

    def test_next_passes_it_over(self):
        self.assertEqual(self.book.first_due(), [0, 40])
        self.book.away(2)
        self.assertEqual(self.book.first_due(), [-2])

    def test_set_by_its_name(self):
        self.assertEqual(self.book.put(1, 50, 0, 0), [1])
        self.assertEqual(self.book.look(1), [0, 1, 50, 0, 0])
        self.assertEqual(self.book.away_all(30), [0])

    def test_after_by_its_name(self):
        self.assertEqual(self.book.put_after(1, 3, 0, 0), [1])
        self.assertEqual(self.book.look(1), [0, 0, 3, 0, 0])

    def test_a_refused_set_leaves_it(self):
        self.assertEqual(self.book.put(1, TOP_NUMBER, 0, 0), [-1])
        self.assertEqual(self.book.look(1), [1, 7, 20, 30])

    def test_away(self):
        self.assertEqual(self.book.away(1), [0])
        self.assertEqual(self.book.look(1), [-2])
        self.assertEqual(self.book.look(2), [0, 0, 40, 50, 60])

    def test_away_all(self):
        self.book.put(3, 5, 0, 30)
        self.assertEqual(self.book.away_all(30), [2])
        self.assertEqual(self.book.look(1), [-2])
        self.assertEqual(self.book.look(2), [0, 0, 40, 50, 60])

    def test_begin(self):
        self.assertEqual(self.book.begin(0), [0])
        self.assertEqual(self.book.look(1), [-2])


if __name__ == "__main__":
    unittest.main()
