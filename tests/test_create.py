"""create, and what an instance is like after it."""

import unittest

from tests.helper import (
    HIGHEST, LOWEST, MISSING, NO_INSTANCE, OUT_OF_RANGE,
    add_dough, ask, cool, create, last_answer, set_baking_time, set_temperature, set_temperatures,
    state_after, temperatures_after, window,
)

# Each one is refused: h or p just outside its range, far outside it, or both.
REFUSED = [(h, 2) for h in (0, 37, -1, LOWEST, HIGHEST)]
REFUSED += [(10, p) for p in (0, 10, -1, LOWEST, HIGHEST)]
REFUSED += [(0, 0), (37, 10), (LOWEST, HIGHEST)]


class CreateTest(unittest.TestCase):
    def test_edges_within(self):
        for h, p in [(1, 1), (1, 9), (36, 1), (36, 9), (2, 2), (35, 8), (10, 2)]:
            with self.subTest(h=h, p=p):
                self.assertEqual(ask(create(h, p)), [[0]])

    def test_edges_outside(self):
        for h, p in REFUSED:
            with self.subTest(h=h, p=p):
                self.assertEqual(ask(create(h, p)), [OUT_OF_RANGE])

    def test_every_hour_has_24(self):
        for h in (1, 2, 10, 35, 36):
            with self.subTest(h=h):
                self.assertEqual(temperatures_after(create(h, 2)), [24] * h)

    def test_hours_of_baking(self):
        for p in range(1, 10):
            with self.subTest(p=p):
                self.assertEqual(last_answer(create(10, p), set_baking_time(5)), [p])

    def test_no_doughs(self):
        self.assertEqual(ask(create(10, 2), window(0), add_dough(0, 1, 1)), [[0], MISSING, [0]])

    def test_a_failed_create_makes_no_instance(self):
        for h, p in REFUSED:
            with self.subTest(h=h, p=p):
                self.assertEqual(last_answer(create(h, p), set_baking_time(2)), NO_INSTANCE)

    def test_an_instance_is_replaced(self):
        first = [
            create(10, 2), set_temperatures(0, 10, 30), add_dough(0, 40, 100), add_dough(1, 20, 60),
            cool(0, 0, 3), set_baking_time(7),
        ]
        self.assertEqual(state_after(first + [create(12, 3)]), state_after([create(12, 3)]))
        self.assertEqual(state_after(first + [create(10, 2)]), state_after([create(10, 2)]))
        self.assertEqual(last_answer(*first, create(4, 3), set_temperature(4, 20)), MISSING)
        self.assertEqual(last_answer(*first, create(10, 2), window(0)), MISSING)

    def test_a_dough_added_after_a_replacement_is_not_cooled(self):
        calls = [create(10, 2), add_dough(0, 40, 100), cool(0, 0, 3), create(10, 2), add_dough(0, 40, 100)]
        self.assertEqual(last_answer(*calls, window(0)), [2, 5])

    def test_a_failed_create_keeps_the_instance(self):
        first = [
            create(10, 2), set_temperature(3, 30), add_dough(0, 40, 100), cool(0, 0, 3),
            set_baking_time(7),
        ]
        for h, p in REFUSED:
            with self.subTest(h=h, p=p):
                self.assertEqual(last_answer(*first, create(h, p)), OUT_OF_RANGE)
                self.assertEqual(state_after(first + [create(h, p)]), state_after(first))
