"""risen."""

import unittest

from tests.helper import (
    HIGHEST, LOWEST, MISSING, OUT_OF_RANGE,
    add_dough, ask, ask_each, cool, create, last_answer, remove_dough, rise_by_words, risen, set_temperature,
    set_temperatures, stop_cooling,
)

TWO = [create(10, 2), add_dough(0, 40, 100), add_dough(3, 20, 60)]

NO_DOUGH = (-1, -2, 2, 3, 6, LOWEST, HIGHEST)
NO_TIME = (-1, -2, 11, 12, 36, 37, LOWEST, HIGHEST)


class RisenTest(unittest.TestCase):
    def test_hour_by_hour(self):
        self.assertEqual(ask_each(TWO, [risen(0, t) for t in range(11)]), [[20 * t] for t in range(11)])

    def test_nothing_ahead_of_the_mixing(self):
        expected = [[0], [0], [0], [0], [20], [40], [60], [80], [100], [120], [140]]
        self.assertEqual(ask_each(TWO, [risen(1, t) for t in range(11)]), expected)

    def test_it_rises_by_the_temperature_minus_4(self):
        for temperature in range(41):
            with self.subTest(temperature=temperature):
                calls = [create(1, 1), set_temperature(0, temperature), add_dough(0, 1, 1), risen(0, 1)]
                self.assertEqual(last_answer(*calls), [max(0, temperature - 4)])

    def test_each_hour_counts_by_its_own_temperature(self):
        calls = [create(5, 1), add_dough(0, 1, 1)]
        calls += [set_temperature(t, temperature) for t, temperature in enumerate([7, 0, 40, 4, 5])]
        found = ask_each(calls, [risen(0, t) for t in range(6)])
        self.assertEqual(found, [[0], [3], [3], [39], [39], [40]])

    def test_not_in_cooled_hours(self):
        calls = TWO + [cool(0, 2, 4), cool(0, 8, 10)]
        expected = [[0], [20], [40], [40], [40], [60], [80], [100], [120], [120], [120]]
        self.assertEqual(ask_each(calls, [risen(0, t) for t in range(11)]), expected)
        # The other dough isn't cooled.
        self.assertEqual(last_answer(*calls, risen(1, 10)), [140])
        self.assertEqual(last_answer(*calls, stop_cooling(0), risen(0, 10)), [200])

    def test_beyond_its_maximum(self):
        calls = [create(36, 2), set_temperatures(0, 36, 40), add_dough(0, 1, 1), risen(0, 36)]
        self.assertEqual(last_answer(*calls), [1296])

    def test_edges_within(self):
        for h in (1, 2, 10, 35, 36):
            with self.subTest(h=h):
                found = ask(create(h, 9), add_dough(0, 1, 1), risen(0, 0), risen(0, h), risen(0, h + 1))
                self.assertEqual(found[2:], [[0], [20 * h], OUT_OF_RANGE])

    def test_no_dough(self):
        for i in NO_DOUGH:
            for t in (0, 5, 10):
                with self.subTest(i=i, t=t):
                    self.assertEqual(last_answer(*TWO, risen(i, t)), MISSING)
        self.assertEqual(last_answer(*TWO, remove_dough(0), risen(1, 5)), MISSING)
        self.assertEqual(last_answer(create(10, 2), risen(0, 0)), MISSING)

    def test_no_such_time(self):
        for i in (0, 1):
            for t in NO_TIME:
                with self.subTest(i=i, t=t):
                    self.assertEqual(last_answer(*TWO, risen(i, t)), OUT_OF_RANGE)

    def test_no_dough_comes_first(self):
        for i in NO_DOUGH:
            for t in NO_TIME:
                with self.subTest(i=i, t=t):
                    self.assertEqual(last_answer(*TWO, risen(i, t)), MISSING)

    def test_by_the_words(self):
        temperatures = [24, 3, 4, 5, 40, 0, 18]
        calls = [create(7, 1)]
        calls += [set_temperature(t, temperature) for t, temperature in enumerate(temperatures)]
        for mixed_at in range(7):
            for start in range(7):
                for to in range(start + 1, 8):
                    with self.subTest(mixed_at=mixed_at, start=start, to=to):
                        setup = calls + [add_dough(mixed_at, 1, 1), cool(0, start, to)]
                        cooled = range(start, to)
                        expected = [[rise_by_words(temperatures, mixed_at, cooled, t)] for t in range(8)]
                        self.assertEqual(ask_each(setup, [risen(0, t) for t in range(8)]), expected)
