"""cool and stop_cooling."""

import unittest

from tests.helper import (
    HIGHEST, LOWEST, MISSING, NOT_COOLED, OUT_OF_RANGE,
    add_dough, ask, cool, create, last_answer, remove_dough, set_temperatures, stop_cooling, window,
)

TWO = [create(10, 2), add_dough(0, 40, 100), add_dough(0, 20, 60)]

NO_DOUGH = (-1, -2, 2, 3, LOWEST, HIGHEST)

OUTSIDE = [
    (0, 0), (5, 5), (10, 10), (5, 4), (10, 0), (-1, 5), (-1, 0), (0, 11), (10, 11), (11, 12), (-2, -1),
    (LOWEST, 5), (5, LOWEST), (5, HIGHEST), (HIGHEST, 5), (LOWEST, HIGHEST), (HIGHEST, LOWEST),
    (LOWEST, LOWEST), (HIGHEST, HIGHEST),
]


class CoolTest(unittest.TestCase):
    def test_answers_the_window_then(self):
        found = ask(*TWO, cool(1, 0, 2), window(1), window(0))
        self.assertEqual(found[3:], [[1, 3, 5], [3, 5], [2, 5]])

    def test_answers_0_without_a_window_then(self):
        self.assertEqual(last_answer(*TWO, cool(0, 0, 10)), [0])
        self.assertEqual(last_answer(*TWO, cool(0, 1, 10)), [0])
        self.assertEqual(last_answer(*TWO, cool(0, 2, 10)), [1, 2, 10])

    def test_a_window_can_come_of_it(self):
        calls = [create(10, 2), add_dough(0, 5, 15), window(0), set_temperatures(1, 10, 10), cool(0, 0, 1)]
        self.assertEqual(ask(*calls)[2:], [[-33], [9], [1, 2, 3]])

    def test_each_hour_is_cooled(self):
        for start in range(10):
            for to in range(start + 1, 11):
                with self.subTest(start=start, to=to):
                    rises = [0 if start <= t < to else 20 for t in range(10)]
                    times = [t for t in range(11) if 40 <= sum(rises[:t]) <= 100]
                    expected = [1, times[0], times[-1]] if times else [0]
                    self.assertEqual(last_answer(*TWO, cool(0, start, to)), expected)

    def test_in_addition_to_earlier_hours(self):
        found = ask(*TWO, cool(0, 0, 2), cool(0, 4, 5), cool(0, 1, 3), cool(0, 1, 3), window(0))
        self.assertEqual(found[3:], [[1, 4, 7], [1, 4, 8], [1, 6, 9], [1, 6, 9], [6, 9]])

    def test_edges_within(self):
        for start, to in [(0, 1), (0, 10), (9, 10)]:
            with self.subTest(start=start, to=to):
                self.assertIn(last_answer(*TWO, cool(0, start, to))[0], (0, 1))
        self.assertEqual(last_answer(create(1, 1), add_dough(0, 1, 20), cool(0, 0, 1)), [0])
        self.assertEqual(last_answer(create(36, 1), add_dough(0, 1, 20), cool(0, 35, 36)), [1, 1, 1])

    def test_edges_outside(self):
        for start, to in OUTSIDE:
            with self.subTest(start=start, to=to):
                found = ask(*TWO, cool(0, start, to), stop_cooling(0), window(0))
                self.assertEqual(found[3:], [OUT_OF_RANGE, NOT_COOLED, [2, 5]])

    def test_no_dough(self):
        for i in NO_DOUGH:
            with self.subTest(i=i):
                found = ask(*TWO, cool(i, 0, 3), stop_cooling(0), stop_cooling(1))
                self.assertEqual(found[3:], [MISSING, NOT_COOLED, NOT_COOLED])

    def test_no_dough_comes_first(self):
        for i in NO_DOUGH:
            for start, to in OUTSIDE:
                with self.subTest(i=i, start=start, to=to):
                    self.assertEqual(last_answer(*TWO, cool(i, start, to)), MISSING)


class StopCoolingTest(unittest.TestCase):
    def test_no_hour_is_cooled_any_more(self):
        calls = [cool(0, 0, 2), cool(0, 4, 5), cool(1, 0, 1), stop_cooling(0), window(0), window(1)]
        self.assertEqual(ask(*TWO, *calls)[6:], [[0], [2, 5], [2, 4]])

    def test_not_cooled(self):
        calls = [stop_cooling(0), cool(0, 3, 4), stop_cooling(1), stop_cooling(0), stop_cooling(0)]
        self.assertEqual(ask(*TWO, *calls)[3:], [NOT_COOLED, [1, 2, 6], NOT_COOLED, [0], NOT_COOLED])

    def test_one_cooled_hour_is_enough(self):
        for t in range(10):
            with self.subTest(t=t):
                self.assertEqual(last_answer(*TWO, cool(0, t, t + 1), stop_cooling(0)), [0])

    def test_an_hour_before_the_mixing_is_cooled_too(self):
        calls = [create(10, 2), add_dough(5, 40, 100), cool(0, 0, 3), window(0), stop_cooling(0), window(0)]
        self.assertEqual(ask(*calls)[2:], [[1, 7, 10], [7, 10], [0], [7, 10]])

    def test_cooling_again(self):
        calls = [cool(1, 0, 2), stop_cooling(1), cool(1, 0, 1), stop_cooling(1)]
        self.assertEqual(ask(*TWO, *calls)[3:], [[1, 3, 5], [0], [1, 2, 4], [0]])

    def test_no_dough(self):
        for i in NO_DOUGH:
            with self.subTest(i=i):
                self.assertEqual(last_answer(*TWO, stop_cooling(i)), MISSING)
        self.assertEqual(last_answer(*TWO, remove_dough(0), stop_cooling(1)), MISSING)
        self.assertEqual(last_answer(create(10, 2), stop_cooling(0)), MISSING)
