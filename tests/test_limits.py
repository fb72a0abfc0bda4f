"""Requests at the limits that the document names."""

import unittest

from bakehours.oven import answers
from tests.helper import (
    HIGHEST, LOWEST, OUT_OF_RANGE,
    all_sets, ask, can_bake, create, deadline_order_by_words, describe, earliest_deadline, kitchen,
    most_doughs, most_doughs_by_words, plan, plan_by_words, plan_if_cooled, start_times, times_by_words,
)

SIX = list(range(6))


class LimitsTest(unittest.TestCase):
    def expected(self, windows, cooled, p):
        """What is answered of the five queries, by the words; cooled are the windows after cooling dough 0."""
        doughs, order = most_doughs_by_words(windows, 36, p)
        found = [[len(doughs)] + doughs + order]
        for times in (windows, cooled):
            best = plan_by_words(SIX, times, 36, p)
            found.append([-33] if best is None else [best[0]] + best[1] + best[2])
        order = deadline_order_by_words(windows, p)
        found.append([int(plan_by_words(all_sets(6)[63], windows, 36, p) is not None)])
        found.append([int(times_by_words(order, windows, 36, p) is not None)] + order)
        return found

    def check(self, windows, p):
        """60 calls on six doughs, 50 of them the five queries again and again."""
        queries = [most_doughs(), plan(), plan_if_cooled(0, 0, 1), can_bake(63), earliest_deadline()]
        # One cooled hour more, in which it would rise by 1: the window is an hour later.
        cooled = [(windows[0][0] + 1, min(36, windows[0][1] + 1))] + windows[1:]
        calls = kitchen(36, p, *windows) + [describe()] * 2 + queries * 10
        found = ask(*calls)
        self.assertEqual(len(found), 60)
        self.assertEqual(found[10:], self.expected(windows, cooled, p) * 10, (windows, p))

    def test_wide_windows(self):
        for p in range(1, 10):
            self.check([(1, 36)] * 6, p)

    def test_wide_windows_that_begin_one_behind_another(self):
        for p in (1, 4, 5, 6, 9):
            self.check([(6 - i, 36) for i in range(6)], p)
            self.check([(1 + i, 36) for i in range(6)], p)
            self.check([(1, 36 - i) for i in range(6)], p)

    def test_wide_windows_of_which_one_begins_late(self):
        for p in (1, 2, 5):
            self.check([(1, 36)] * 5 + [(35, 36)], p)
            self.check([(30, 36)] + [(1, 36)] * 5, p)
            self.check([(1, 36)] * 5 + [(1, 1)], p)

    def test_orders_of_seventy(self):
        calls = [create(36, 9)] + [start_times([number] * 70) for number in [0, LOWEST, HIGHEST] * 19]
        calls += [start_times(list(range(70)))] * 2
        handed_in = [number for call in calls for number in call]
        self.assertEqual(len(calls), 60)
        self.assertEqual(len(handed_in), 3 + 59 * 72)
        self.assertEqual(answers(handed_in), [1, 0] + [1, -22] * 59)

    def test_seventy_numbers_ahead_of_a_create(self):
        calls = [start_times([0] * 70)] * 60
        self.assertEqual(sum(len(call) for call in calls), 4320)
        self.assertEqual(ask(*calls), [[-11]] * 60)

    def test_seventy_numbers_on_six_doughs(self):
        calls = kitchen(36, 5, *[(1, 36)] * 6) + [start_times(SIX * 11 + SIX[:4])] * 52
        self.assertEqual(ask(*calls)[8:], [OUT_OF_RANGE] * 52)

    def test_describe_at_its_longest(self):
        calls = kitchen(36, 9, *[(1, 36)] * 6) + [describe()] * 52
        self.assertEqual(ask(*calls)[8:], [[36] + [5] * 36 + [9, 6] + [0, 1, 36, 0] * 6] * 52)
