"""set_temperature, set_temperatures and set_baking_time."""

import unittest

from tests.helper import (
    HIGHEST, LOWEST, MISSING, OUT_OF_RANGE,
    add_dough, ask, create, last_answer, set_baking_time, set_temperature, set_temperatures,
    temperatures_after, window,
)

OUTSIDE = (-1, 41, LOWEST, HIGHEST)


class SetTemperatureTest(unittest.TestCase):
    def test_answers_the_previous_temperature(self):
        found = ask(create(10, 2), set_temperature(5, 4), set_temperature(5, 30), set_temperature(5, 30))
        self.assertEqual(found, [[0], [24], [4], [30]])

    def test_changes_one_hour_alone(self):
        for t in range(5):
            with self.subTest(t=t):
                expected = [24] * 5
                expected[t] = 7
                self.assertEqual(temperatures_after(create(5, 2), set_temperature(t, 7)), expected)

    def test_edges_of_the_hour(self):
        for h in (1, 10, 36):
            for t in (0, h - 1):
                with self.subTest(h=h, t=t):
                    self.assertEqual(last_answer(create(h, 2), set_temperature(t, 20)), [24])
            for t in (-1, h, h + 1, -h, LOWEST, HIGHEST):
                with self.subTest(h=h, t=t):
                    self.assertEqual(last_answer(create(h, 2), set_temperature(t, 20)), MISSING)

    def test_edges_of_the_temperature(self):
        for temperature in (0, 1, 39, 40):
            with self.subTest(temperature=temperature):
                calls = [create(3, 2), set_temperature(1, temperature), set_temperature(1, 20)]
                self.assertEqual(ask(*calls), [[0], [24], [temperature]])
        for temperature in OUTSIDE:
            with self.subTest(temperature=temperature):
                self.assertEqual(last_answer(create(3, 2), set_temperature(1, temperature)), OUT_OF_RANGE)

    def test_a_missing_hour_comes_first(self):
        for t in (-1, 3, LOWEST, HIGHEST):
            for temperature in OUTSIDE:
                with self.subTest(t=t, temperature=temperature):
                    self.assertEqual(last_answer(create(3, 2), set_temperature(t, temperature)), MISSING)

    def test_windows_follow(self):
        calls = [create(10, 2), add_dough(0, 40, 100), set_temperature(0, 4), window(0)]
        self.assertEqual(last_answer(*calls), [3, 6])


class SetTemperaturesTest(unittest.TestCase):
    def test_answers_and_changes_these_hours(self):
        for start in range(7):
            for to in range(start, 7):
                with self.subTest(start=start, to=to):
                    call = set_temperatures(start, to, 9)
                    self.assertEqual(last_answer(create(6, 2), call), [to - start])
                    expected = [24] * start + [9] * (to - start) + [24] * (6 - to)
                    self.assertEqual(temperatures_after(create(6, 2), call), expected)

    def test_edges_of_the_hours(self):
        for h in (1, 10, 36):
            for start, to in [(0, h), (0, 0), (h, h), (h - 1, h)]:
                with self.subTest(h=h, start=start, to=to):
                    self.assertEqual(last_answer(create(h, 2), set_temperatures(start, to, 9)), [to - start])
            outside = [
                (-1, h), (0, h + 1), (h, h + 1), (h + 1, h + 1), (1, 0), (h, h - 1), (-1, -1), (0, -1),
                (LOWEST, h), (0, HIGHEST), (LOWEST, HIGHEST), (HIGHEST, LOWEST), (HIGHEST, h), (0, LOWEST),
                (LOWEST, LOWEST), (HIGHEST, HIGHEST),
            ]
            for start, to in outside:
                with self.subTest(h=h, start=start, to=to):
                    found = last_answer(create(h, 2), set_temperatures(start, to, 9))
                    self.assertEqual(found, OUT_OF_RANGE)

    def test_edges_of_the_temperature(self):
        for temperature in (0, 1, 39, 40):
            with self.subTest(temperature=temperature):
                call = set_temperatures(1, 3, temperature)
                self.assertEqual(last_answer(create(3, 2), call), [2])
                self.assertEqual(temperatures_after(create(3, 2), call), [24, temperature, temperature])
        for temperature in OUTSIDE:
            for start, to in [(1, 3), (2, 2), (0, 0), (3, 3)]:
                with self.subTest(start=start, to=to, temperature=temperature):
                    found = last_answer(create(3, 2), set_temperatures(start, to, temperature))
                    self.assertEqual(found, OUT_OF_RANGE)

    def test_windows_follow(self):
        calls = [create(10, 2), add_dough(0, 40, 100), set_temperatures(0, 10, 14), window(0)]
        self.assertEqual(last_answer(*calls), [4, 10])


class SetBakingTimeTest(unittest.TestCase):
    def test_answers_the_previous_number(self):
        found = ask(create(10, 2), set_baking_time(9), set_baking_time(1), set_baking_time(1))
        self.assertEqual(found, [[0], [2], [9], [1]])

    def test_edges(self):
        for p in (1, 2, 8, 9):
            with self.subTest(p=p):
                self.assertEqual(last_answer(create(1, 4), set_baking_time(p), set_baking_time(5)), [p])
        for p in (0, 10, -1, LOWEST, HIGHEST):
            with self.subTest(p=p):
                calls = [create(10, 4), set_baking_time(p), set_baking_time(5)]
                self.assertEqual(ask(*calls), [[0], OUT_OF_RANGE, [4]])

    def test_a_window_does_not_ask_for_time_to_bake(self):
        calls = [create(4, 9), add_dough(0, 40, 100), window(0), set_baking_time(1), window(0)]
        self.assertEqual(ask(*calls), [[0], [0], [2, 4], [9], [2, 4]])
