"""The interface: how calls are written and answers are given back, and that nothing is changed or kept."""

import unittest

from duetimers.timers import answers
from support import (TOP_NUMBER, TOP_TIME, after, answered, away, away_all, begin, count, first, first_difference,
                     go_on, hold, joined, later, listed, look, put, split, time)

EACH_CALL = joined([begin(5), put(1, 30, 7, 8), after(2, 10, 0, 8), look(1), first(), time(15), hold(1), look(1), count(),
                    time(20), go_on(1), later(1, 3), listed(), time(50, 1), away(2), away_all(8), look(1), first(),
                    put(TOP_NUMBER, 1), time(3), later(1, 1), hold(1), go_on(1), put(1, 2, 3, 4), hold(1), count()])


class NeverChanged(list):
    """A list that fails when something is about to change it, be it for a while only."""

    def refuse(self, *arguments, **named):
        raise AssertionError("what was handed in is changed")

    append = extend = insert = pop = remove = clear = reverse = sort = refuse
    __setitem__ = __delitem__ = __iadd__ = __imul__ = refuse


class Form(unittest.TestCase):
    def test_one_call(self):
        self.assertEqual(answers([1, 0]), [1, 0])
        self.assertEqual(answers([7]), [1, -2])
        self.assertEqual(answers([8, 0, 0]), [1, 0])
        self.assertEqual(answers([9]), [2, 0, 0])
        self.assertEqual(answers([13, 0, 0]), [1, 0])

    def test_each_call_by_its_number(self):
        self.assertEqual(answers([1, 5, 2, 1, 30, 7, 8, 3, 2, 10, 0, 8, 6, 1, 7, 4, 2, 5, 8, 6, 1, 7]),
                         [1, 0, 1, 0, 1, 0, 5, 0, 1, 30, 7, 8, 2, 0, 15, 1, 0, 1, 1, 1, -2, 1, -2])
        self.assertEqual(answers([2, 1, 30, 7, 8, 2, 2, 10, 0, 9, 8, 12, 5, 11, 1, 9, 6, 1, 12, 1, 10, 1, 4, 13, 0, 5]),
                         [1, 0, 1, 0, 5, 1, 2, 9, 10, 0, 1, 0, 2, 0, 1, 4, 1, 18, 7, 8, 1, 0, 1, 0, 5, 1, 1, 34, 7, 8])

    def test_a_refusal_is_its_number_alone(self):
        self.assertEqual(answers([1, TOP_NUMBER, 2, 1, TOP_NUMBER, 0, 0, 3, 1, TOP_NUMBER, 0, 0, 4, 1, 6, 1, 7]),
                         [1, -1, 1, -1, 1, -1, 1, -2, 1, -2, 1, -2])
        self.assertEqual(answers([8, TOP_NUMBER, 0, 10, 1, 0, 11, 1, 12, 1, 2, 1, 5, 0, 0, 10, 1, TOP_NUMBER, 12, 1]),
                         [1, -1, 1, -2, 1, -2, 1, -2, 1, 0, 1, -1, 1, -4])

    def test_a_list_of_plain_whole_numbers_is_given_back(self):
        got = answers(EACH_CALL)
        self.assertIs(type(got), list)
        self.assertEqual({type(number) for number in got}, {int})

    def test_a_number_that_is_no_call_is_not_answered(self):
        for number in (0, 14, TOP_NUMBER):
            with self.assertRaises(KeyError):
                answers([number])


class NothingChangedOrKept(unittest.TestCase):
    def test_the_list_is_the_same_behind_the_call(self):
        calls = list(EACH_CALL)
        answers(calls)
        self.assertEqual(calls, EACH_CALL)

    def test_the_list_is_not_changed_for_a_while_either(self):
        self.assertEqual(answers(NeverChanged(EACH_CALL)), answers(EACH_CALL))

    def test_the_same_list_twice_is_answered_the_same(self):
        first_time = answers(EACH_CALL)
        kept = list(first_time)
        self.assertEqual(answers(EACH_CALL), kept)
        self.assertEqual(first_time, kept)

    def test_a_change_of_what_was_given_back_changes_nothing(self):
        kept = list(answers(EACH_CALL))
        answers(EACH_CALL).clear()
        self.assertEqual(answers(EACH_CALL), kept)

    def test_no_timer_and_no_time_stays_for_the_next_list(self):
        answers(joined([begin(1000), put(1, 5), put(2, 6), hold(2), time(2000, 0)]))
        self.assertEqual(answered(first(), look(1), count(), listed(), after(1, 5), look(1), time(5)),
                         [[-2], [-2], [0, 0], [0], [0], [0, 0, 5, 0, 0], [1, 1, 0, 5, 0]])


class LongLists(unittest.TestCase):
    def test_3000_calls_that_set(self):
        calls = joined([put(name, TOP_TIME - name) for name in range(2999)] + [look(0)])
        want = [[0]] * 2999 + [[0, 2998, TOP_TIME, 0, 0]]
        self.assertIsNone(first_difference(split(answers(calls)), want))

    def test_3000_calls_of_all_kinds(self):
        names = range(250)
        calls = [begin(0)] + [after(name, 7, 1, name % 2) for name in names]
        want = [[0]] * 251
        calls += [put(name, 7, 2, name % 2) for name in names]
        want += [[1]] * 250
        calls += [look(name) for name in names]
        want += [[0, name, 7, 2, name % 2] for name in names]
        calls += [hold(name) for name in names] + [count()]
        want += [[0]] * 250 + [[0, 250]]
        calls += [go_on(name) for name in reversed(names)] + [count()]
        want += [[0]] * 250 + [[250, 0]]
        calls += [later(name, 3) for name in names] + [first()]
        want += [[0]] * 250 + [[0, 10]]
        calls += [listed(name, 1) for name in names]
        want += [[1, name, 10, 2, name % 2] for name in names]
        calls += [time(13, 1) for name in names] + [time(13)]
        want += [[1, name, name % 2, 10, 1] for name in names] + [[0]]
        calls += [away_all(1), away_all(1)]
        want += [[125], [0]]
        calls += [away(name) for name in names]
        want += [[-2] if name % 2 else [0] for name in names]
        calls += [first()] * (3000 - len(calls))
        want += [[-2]] * (3000 - len(want))
        self.assertIsNone(first_difference(split(answers(joined(calls))), want))

    def test_answers_of_nearly_a_million_numbers_by_list(self):
        sets = [put(name, 5, name, 1) for name in range(2900)]
        row = [number for name in range(2900) for number in (name, 5, name, 1)]
        got = answers(joined(sets + [listed(0, TOP_NUMBER)] * 85 + [count()]))
        self.assertTrue(990000 < len(got) < 1000000, len(got))
        want = [[0]] * 2900 + [[2900] + row] * 85 + [[2900, 0]]
        self.assertTrue(split(got) == want)

    def test_answers_of_nearly_a_million_numbers_by_time(self):
        # All are due again each time, so each time changes each one's place.
        sets = [put(name, 0, 1, name) for name in range(2900)]
        got = answers(joined(sets + [time(now, TOP_NUMBER) for now in range(85)] + [count()]))
        self.assertTrue(990000 < len(got) < 1000000, len(got))
        want = [[0]] * 2900
        want += [[2900] + [number for name in range(2900) for number in (name, name, now, 0)] for now in range(85)]
        want += [[2900, 0]]
        self.assertTrue(split(got) == want)


if __name__ == "__main__":
    unittest.main()
