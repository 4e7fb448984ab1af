"""The interface: how calls are written and answers are given back, and that nothing is changed or kept."""

import unittest

from duetimers.timers import answers
from support import (TOP_NUMBER, TOP_TIME, after, answered, away, away_all, begin, first, first_difference, joined,
                     look, put, split)

EACH_CALL = joined([begin(5), put(1, 30, 7, 8), after(2, 10, 0, 8), look(1), first(), away(2), away_all(8),
                    look(1), first(), put(TOP_NUMBER, 1), put(1, 2, 3, 4)])


class NeverChanged(list):
    """A list that fails when something is about to change it, be it for a while only."""

    def refuse(self, *arguments, **named):
        raise AssertionError("what was handed in is changed")

    append = extend = insert = pop = remove = clear = reverse = sort = refuse
    __setitem__ = __delitem__ = __iadd__ = __imul__ = refuse


class Form(unittest.TestCase):
    def test_one_call(self):
        self.assertEqual(answers([1, 0]), [1, 0])
        self.assertEqual(answers([7]), [1, -2])

    def test_each_call_by_its_number(self):
        self.assertEqual(answers([1, 5, 2, 1, 30, 7, 8, 3, 2, 10, 0, 8, 6, 1, 7, 4, 2, 5, 8, 6, 1, 7]),
                         [1, 0, 1, 0, 1, 0, 5, 0, 1, 30, 7, 8, 2, 0, 15, 1, 0, 1, 1, 1, -2, 1, -2])

    def test_a_refusal_is_its_number_alone(self):
        self.assertEqual(answers([1, TOP_NUMBER, 2, 1, TOP_NUMBER, 0, 0, 3, 1, TOP_NUMBER, 0, 0, 4, 1, 6, 1, 7]),
                         [1, -1, 1, -1, 1, -1, 1, -2, 1, -2, 1, -2])

    def test_a_list_of_plain_whole_numbers_is_given_back(self):
        got = answers(EACH_CALL)
        self.assertIs(type(got), list)
        self.assertEqual({type(number) for number in got}, {int})

    def test_a_number_that_is_no_call_is_not_answered(self):
        for number in (0, 14, TOP_NUMBER):
            with self.assertRaises(KeyError):
                answers([number])


class NothingChangedOrKept(unittest.TestCase):
    def test_the_list_is_the_same_behind_the_call(self):
        calls = list(EACH_CALL)
        answers(calls)
        self.assertEqual(calls, EACH_CALL)

    def test_the_list_is_not_changed_for_a_while_either(self):
        self.assertEqual(answers(NeverChanged(EACH_CALL)), answers(EACH_CALL))

    def test_the_same_list_twice_is_answered_the_same(self):
        first_time = answers(EACH_CALL)
        kept = list(first_time)
        self.assertEqual(answers(EACH_CALL), kept)
        self.assertEqual(first_time, kept)

    def test_a_change_of_what_was_given_back_changes_nothing(self):
        kept = list(answers(EACH_CALL))
        answers(EACH_CALL).clear()
        self.assertEqual(answers(EACH_CALL), kept)

    def test_no_timer_and_no_time_stays_for_the_next_list(self):
        answers(joined([begin(1000), put(1, 5), put(2, 6)]))
        self.assertEqual(answered(first(), look(1), after(1, 5), look(1)), [[-2], [-2], [0], [0, 0, 5, 0, 0]])


class LongLists(unittest.TestCase):
    def test_3000_calls_that_set(self):
        calls = joined([put(name, TOP_TIME - name) for name in range(2999)] + [look(0)])
        want = [[0]] * 2999 + [[0, 2998, TOP_TIME, 0, 0]]
        self.assertIsNone(first_difference(split(answers(calls)), want))

    def test_3000_calls_of_all_kinds(self):
        times = range(500)
        calls = [begin(0)] + [after(name, 7, 1, name % 2) for name in times]
        calls += [put(name, 7, 2, name % 2) for name in times]
        calls += [look(name) for name in times]
        calls += [first() for name in times]
        calls += [away(name) for name in times if name % 4 == 0]
        calls += [look(name) for name in times]
        calls += [away_all(1)]
        calls += [away(name) for name in times if name % 4 != 0]
        calls = (calls + [first()] * 3000)[:3000]
        want = [[0]] + [[0]] * 500 + [[1]] * 500
        want += [[0, name, 7, 2, name % 2] for name in times]
        want += [[0, 7]] * 500
        want += [[0]] * 125
        want += [[-2] if name % 4 == 0 else [0, name - name // 4 - 1, 7, 2, name % 2] for name in times]
        want += [[250]]
        want += [[0] if name % 4 == 2 else [-2] for name in times if name % 4 != 0]
        want = (want + [[-2]] * 3000)[:3000]
        self.assertIsNone(first_difference(split(answers(joined(calls))), want))


if __name__ == "__main__":
    unittest.main()
