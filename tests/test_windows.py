"""window, and the requirements on windows and on cooling."""

import itertools
import unittest

from tests.helper import (
    HIGHEST, LOWEST, MISSING, NO_WINDOW,
    add_dough, ask, cool, create, last_answer, remove_dough, set_temperature, set_temperatures, window,
)

HOURS = 4
AMOUNTS = [(1, 1), (1, 4), (2, 3), (3, 9), (5, 6), (1, 999)]


def times_by_the_words(temperatures, mixed_at, minimum, maximum, cooled):
    """The times at which a dough can be put in, hour by hour as the words tell it."""
    times = []
    amount = 0
    for t in range(mixed_at, len(temperatures) + 1):
        if minimum <= amount <= maximum:
            times.append(t)
        if t < len(temperatures) and t not in cooled and temperatures[t] > 4:
            amount += temperatures[t] - 4
    return times


class WindowTest(unittest.TestCase):
    def test_first_and_last_time(self):
        calls = [create(10, 2), add_dough(0, 40, 100), add_dough(0, 20, 60), add_dough(3, 50, 90)]
        self.assertEqual(ask(*calls, window(0), window(1), window(2))[4:], [[2, 5], [1, 3], [6, 7]])

    def test_one_time_alone(self):
        self.assertEqual(last_answer(create(10, 2), add_dough(0, 40, 40), window(0)), [2, 2])

    def test_minimum_and_maximum_themselves_count(self):
        for minimum, maximum, expected in [
            (40, 60, [2, 3]), (41, 60, [3, 3]), (40, 59, [2, 2]), (41, 59, NO_WINDOW), (39, 61, [2, 3]),
        ]:
            with self.subTest(minimum=minimum, maximum=maximum):
                calls = [create(10, 2), add_dough(0, minimum, maximum), window(0)]
                self.assertEqual(last_answer(*calls), expected)

    def test_the_last_time_is_h(self):
        for h in (1, 10, 36):
            with self.subTest(h=h):
                self.assertEqual(last_answer(create(h, 9), add_dough(0, 20 * h, 999), window(0)), [h, h])
                self.assertEqual(last_answer(create(h, 9), add_dough(0, 20, 999), window(0)), [1, h])
        self.assertEqual(last_answer(create(10, 2), add_dough(0, 201, 999), window(0)), NO_WINDOW)

    def test_it_rises_from_its_mixing_on(self):
        for mixed_at in range(10):
            with self.subTest(mixed_at=mixed_at):
                calls = [create(10, 2), add_dough(mixed_at, 20, 20), window(0)]
                self.assertEqual(last_answer(*calls), [mixed_at + 1, mixed_at + 1])

    def test_a_cold_hour_neither_raises_nor_lowers(self):
        for cold, expected in [(0, [4, 6]), (3, [4, 6]), (4, [4, 6]), (5, [4, 5])]:
            with self.subTest(cold=cold):
                calls = [create(10, 2), set_temperatures(1, 3, cold), add_dough(0, 40, 80), window(0)]
                self.assertEqual(last_answer(*calls), expected)

    def test_the_warmest_hours(self):
        calls = [create(36, 1), set_temperatures(0, 36, 40), add_dough(0, 999, 999), add_dough(0, 972, 999)]
        self.assertEqual(ask(*calls, window(0), window(1))[4:], [NO_WINDOW, [27, 27]])

    def test_no_window(self):
        calls = [create(10, 2), set_temperature(5, 4), add_dough(9, 50, 60), window(0)]
        self.assertEqual(last_answer(*calls), NO_WINDOW)
        self.assertEqual(last_answer(create(10, 2), add_dough(0, 21, 39), window(0)), NO_WINDOW)
        self.assertEqual(last_answer(create(10, 2), add_dough(0, 1, 19), window(0)), NO_WINDOW)

    def test_no_dough(self):
        for i in (-1, -2, 2, 3, 6, LOWEST, HIGHEST):
            with self.subTest(i=i):
                # One of the two has no window: that there is no dough comes first.
                calls = [create(10, 2), add_dough(0, 40, 100), add_dough(9, 50, 60), window(i)]
                self.assertEqual(last_answer(*calls), MISSING)
        self.assertEqual(last_answer(create(10, 2), window(0)), MISSING)
        self.assertEqual(last_answer(create(10, 2), add_dough(0, 1, 1), remove_dough(0), window(0)), MISSING)


class RequirementsTest(unittest.TestCase):
    def check(self, temperatures, mixed_at, start, to):
        """Windows of six doughs before and after cooling them, against the words."""
        calls = [create(HOURS, 1)]
        calls += [set_temperature(t, temperature) for t, temperature in enumerate(temperatures)]
        calls += [add_dough(mixed_at, minimum, maximum) for minimum, maximum in AMOUNTS]
        calls += [window(i) for i in range(6)]
        calls += [cool(i, start, to) for i in range(6)]
        calls += [window(i) for i in range(6)]
        found = ask(*calls)
        for i, (minimum, maximum) in enumerate(AMOUNTS):
            before, cooling, after = found[-18 + i], found[-12 + i], found[-6 + i]
            warm = times_by_the_words(temperatures, mixed_at, minimum, maximum, ())
            cooled = times_by_the_words(temperatures, mixed_at, minimum, maximum, range(start, to))
            # Between the first and the last time, it can be put in at every time.
            self.assertEqual(warm, list(range(before[0], before[1] + 1)) if before != NO_WINDOW else [])
            self.assertEqual(cooled, list(range(after[0], after[1] + 1)) if after != NO_WINDOW else [])
            self.assertEqual(cooling, [1] + after if after != NO_WINDOW else [0])
            if before != NO_WINDOW and after != NO_WINDOW:
                self.assertGreaterEqual(after[0], before[0])
                self.assertGreaterEqual(after[1], before[1])

    def test_all_small_schedules(self):
        coolings = [(start, to) for start in range(HOURS) for to in range(start + 1, HOURS + 1)]
        for temperatures in itertools.product((2, 5, 7), repeat=HOURS):
            for mixed_at in range(HOURS):
                for start, to in coolings:
                    self.check(temperatures, mixed_at, start, to)
