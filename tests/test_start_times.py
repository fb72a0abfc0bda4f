"""start_times."""

import itertools
import unittest

from tests.helper import (
    HIGHEST, LOWEST, NO_ORDER, OUT_OF_RANGE,
    add_dough, ask, ask_each, cool, create, kitchen, last_answer, remove_dough, set_baking_time,
    set_temperatures, start_times, times_by_words,
)

# The last one of the three has no window.
THREE = kitchen(10, 2, (2, 5), (1, 3), None)

MALFORMED = [
    [-1], [3], [6], [LOWEST], [HIGHEST], [0, -1], [-1, 0], [1, 0, 3], [0, 0], [1, 1], [0, 1, 0], [1, 0, 0],
    [2, 2], [0, 1, 2, 3], [0, 1, 2, 0], [2, 1, 0, 1, 2], [LOWEST, HIGHEST], [HIGHEST, HIGHEST], [-3, -2, -1],
    [0] * 70, [3] * 70, list(range(70)), [HIGHEST] * 70, [LOWEST] * 70, [0, 1] * 35,
]


class StartTimesTest(unittest.TestCase):
    def test_as_early_as_possible(self):
        queries = [start_times([1, 0]), start_times([0]), start_times([1])]
        self.assertEqual(ask_each(THREE, queries), [[2, 1, 3], [1, 2], [1, 1]])

    def test_the_oven_waits_for_a_window(self):
        calls = kitchen(20, 3, (1, 2), (8, 9), (11, 13), (13, 20))
        found = ask_each(calls, [start_times([0, 1, 2, 3]), start_times([0, 3]), start_times([1, 3])])
        self.assertEqual(found, [[4, 1, 8, 11, 14], [2, 1, 13], [2, 8, 13]])

    def test_an_empty_order(self):
        for calls in (THREE, [create(10, 2)], kitchen(1, 9, (1, 1)), kitchen(5, 1, None)):
            with self.subTest(calls=calls):
                self.assertEqual(last_answer(*calls, start_times([])), [0])

    def test_a_window_has_ended(self):
        self.assertEqual(last_answer(*THREE, start_times([0, 1])), NO_ORDER)
        for last, expected in [(2, NO_ORDER), (3, [2, 1, 3]), (4, [2, 1, 3])]:
            with self.subTest(last=last):
                calls = kitchen(10, 2, (1, 1), (1, last))
                self.assertEqual(last_answer(*calls, start_times([0, 1])), expected)

    def test_finished_at_h_just_so(self):
        for h, expected in [(9, NO_ORDER), (10, [1, 8]), (11, [1, 8])]:
            with self.subTest(h=h):
                self.assertEqual(last_answer(*kitchen(h, 2, (8, 8)), start_times([0])), expected)
        for p in range(1, 10):
            with self.subTest(p=p):
                calls = kitchen(36, p, (36 - p, 36), (37 - p, 36))
                found = ask_each(calls, [start_times([0]), start_times([1]), start_times([0, 1])])
                self.assertEqual(found, [[1, 36 - p], NO_ORDER, NO_ORDER])

    def test_the_last_one_is_finished_at_h_just_so(self):
        for h, expected in [(8, NO_ORDER), (9, [2, 1, 5]), (10, [2, 1, 5])]:
            with self.subTest(h=h):
                calls = kitchen(h, 4, (1, 8), (1, 8))
                self.assertEqual(last_answer(*calls, start_times([1, 0])), expected)

    def test_baked_by_the_hours_of_baking(self):
        calls = kitchen(36, 1, (1, 36), (1, 36), (1, 36))
        for p in range(1, 10):
            with self.subTest(p=p):
                found = last_answer(*calls, set_baking_time(p), start_times([2, 0, 1]))
                self.assertEqual(found, [3, 1, 1 + p, 1 + 2 * p])

    def test_a_dough_without_a_window(self):
        for order in ([2], [2, 0], [0, 2], [1, 0, 2], [1, 2, 0], [2, 1, 0]):
            with self.subTest(order=order):
                self.assertEqual(last_answer(*THREE, start_times(order)), NO_ORDER)

    def test_malformed(self):
        for order in MALFORMED:
            with self.subTest(order=order):
                self.assertEqual(last_answer(*THREE, start_times(order)), OUT_OF_RANGE)

    def test_malformed_comes_before_impossible(self):
        for order in ([2, 3], [3, 2], [2, 2], [0, 1, 3], [0, 1, 0], [0, 1, -1], [0, 1, 2, 2]):
            with self.subTest(order=order):
                self.assertEqual(last_answer(*THREE, start_times(order)), OUT_OF_RANGE)

    def test_without_doughs(self):
        for order in ([0], [-1], [1, 0], [HIGHEST], [LOWEST]):
            with self.subTest(order=order):
                self.assertEqual(last_answer(create(10, 2), start_times(order)), OUT_OF_RANGE)

    def test_a_removed_dough(self):
        calls = THREE + [remove_dough(2), start_times([2]), remove_dough(0), start_times([1]), start_times([0])]
        self.assertEqual(ask(*calls)[-4:], [OUT_OF_RANGE, [1], OUT_OF_RANGE, [1, 1]])

    def test_six_doughs(self):
        calls = kitchen(14, 2, *[(1, 12)] * 6)
        for order in itertools.permutations(range(6)):
            self.assertEqual(last_answer(*calls, start_times(order)), [6, 1, 3, 5, 7, 9, 11])
        for order in [list(range(7)), [0, 1, 2, 3, 4, 5, 5], [0, 1, 2, 3, 4, 6]]:
            with self.subTest(order=order):
                self.assertEqual(last_answer(*calls, start_times(order)), OUT_OF_RANGE)

    def test_the_windows_of_the_present_state(self):
        calls = [create(10, 2), add_dough(0, 40, 100), start_times([0]), cool(0, 0, 3), start_times([0])]
        calls += [set_temperatures(5, 10, 0), start_times([0])]
        self.assertEqual(ask(*calls)[2:], [[1, 2], [1, 5, 8], [1, 5], [5], [1, 5]])

    def test_all_orders_of_some_windows(self):
        choices = [None, (1, 1), (1, 4), (2, 3), (2, 6), (5, 7)]
        orders = [list(order) for count in range(4) for order in itertools.permutations(range(3), count)]
        for windows in itertools.product(choices, repeat=3):
            for p in (1, 2, 4):
                found = ask_each(kitchen(7, p, *windows), [start_times(order) for order in orders])
                for order, answer in zip(orders, found):
                    times = times_by_words(order, windows, 7, p)
                    expected = NO_ORDER if times is None else [len(times)] + times
                    self.assertEqual(answer, expected, (windows, p, order))
