"""describe."""

import unittest

from tests.helper import (
    add_dough, ask, cool, create, describe, last_answer, remove_dough, set_baking_time, set_temperature,
    set_temperatures, stop_cooling,
)


class DescribeTest(unittest.TestCase):
    def cooled_hours(self, *calls):
        """In how many hours the one dough is cooled after these calls."""
        return last_answer(create(10, 2), add_dough(3, 40, 100), *calls, describe())[-1]

    def test_without_doughs(self):
        self.assertEqual(last_answer(create(1, 9), describe()), [1, 24, 9, 0])
        self.assertEqual(last_answer(create(2, 1), describe()), [2, 24, 24, 1, 0])
        self.assertEqual(last_answer(create(36, 5), describe()), [36] + [24] * 36 + [5, 0])

    def test_temperatures(self):
        calls = [create(5, 2), set_temperature(0, 0), set_temperature(4, 40), set_temperatures(1, 3, 7)]
        self.assertEqual(last_answer(*calls, describe()), [5, 0, 7, 7, 24, 40, 2, 0])

    def test_hours_of_baking(self):
        self.assertEqual(last_answer(create(1, 2), set_baking_time(7), describe()), [1, 24, 7, 0])

    def test_doughs(self):
        calls = [create(2, 3), add_dough(0, 1, 999), add_dough(1, 5, 5), cool(1, 0, 1)]
        self.assertEqual(last_answer(*calls, describe()), [2, 24, 24, 3, 2, 0, 1, 999, 0, 1, 5, 5, 1])

    def test_six_doughs(self):
        calls = [create(36, 9)] + [add_dough(30 + i, 100 + i, 200 + i) for i in range(6)]
        calls += [cool(i, 10, 11 + i) for i in range(6)]
        doughs = [[30 + i, 100 + i, 200 + i, 1 + i] for i in range(6)]
        expected = [36] + [24] * 36 + [9, 6] + sum(doughs, [])
        self.assertEqual(last_answer(*calls, describe()), expected)

    def test_a_removed_dough(self):
        calls = [create(1, 1)] + [add_dough(0, 10 + i, 20) for i in range(3)] + [cool(2, 0, 1), remove_dough(1)]
        self.assertEqual(last_answer(*calls, describe()), [1, 24, 1, 2, 0, 10, 20, 0, 0, 12, 20, 1])

    def test_cooled_hours(self):
        self.assertEqual(self.cooled_hours(), 0)
        self.assertEqual(self.cooled_hours(cool(0, 0, 10)), 10)
        self.assertEqual(self.cooled_hours(cool(0, 9, 10)), 1)
        self.assertEqual(self.cooled_hours(cool(0, 4, 6), cool(0, 8, 9)), 3)

    def test_an_hour_cooled_twice_counts_once(self):
        self.assertEqual(self.cooled_hours(cool(0, 4, 8), cool(0, 6, 10), cool(0, 5, 6)), 6)

    def test_hours_before_the_mixing_count(self):
        self.assertEqual(self.cooled_hours(cool(0, 0, 3)), 3)
        self.assertEqual(self.cooled_hours(cool(0, 2, 4)), 2)

    def test_hours_that_are_cold_anyway_count(self):
        self.assertEqual(self.cooled_hours(set_temperatures(0, 10, 0), cool(0, 4, 6)), 2)

    def test_stop_cooling(self):
        self.assertEqual(self.cooled_hours(cool(0, 0, 10), stop_cooling(0)), 0)
        self.assertEqual(self.cooled_hours(cool(0, 0, 10), stop_cooling(0), cool(0, 1, 2)), 1)

    def test_an_instance_that_is_replaced(self):
        calls = [create(3, 1), add_dough(0, 1, 1), set_temperature(0, 0), create(0, 1), describe(), create(2, 4)]
        found = ask(*calls, describe())
        self.assertEqual(found[4], [3, 0, 24, 24, 1, 1, 0, 1, 1, 0])
        self.assertEqual(found[6], [2, 24, 24, 4, 0])
