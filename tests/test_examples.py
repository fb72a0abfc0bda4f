"""The whole table of examples of the document, made in its order in one request."""

import unittest

from tests.helper import (
    add_dough, ask, can_bake, cool, create, describe, earliest_deadline, most_doughs, plan, plan_if_cooled,
    remove_dough, risen, set_temperature, start_times, stop_cooling, window,
)

ROWS = [
    (create(10, 2), [0]),
    (add_dough(0, 40, 100), [0]),
    (window(0), [2, 5]),
    (add_dough(0, 20, 60), [1]),
    (window(1), [1, 3]),
    (risen(0, 4), [80]),
    (start_times([1, 0]), [2, 1, 3]),
    (start_times([0, 1]), [-33]),
    (plan(), [5, 1, 0, 1, 3]),
    (most_doughs(), [2, 0, 1, 1, 0]),
    (earliest_deadline(), [1, 1, 0]),
    (can_bake(1), [1]),
    (plan_if_cooled(0, 0, 4), [8, 1, 0, 1, 6]),
    (cool(1, 0, 2), [1, 3, 5]),
    (window(1), [3, 5]),
    (plan(), [6, 0, 1, 2, 4]),
    (stop_cooling(0), [-6]),
    (set_temperature(5, 4), [24]),
    (add_dough(9, 50, 60), [2]),
    (window(2), [-33]),
    (plan(), [-33]),
    (most_doughs(), [2, 0, 1, 0, 1]),
    (remove_dough(2), [2]),
    (describe(), [10, 24, 24, 24, 24, 24, 4, 24, 24, 24, 24, 2, 2, 0, 40, 100, 0, 0, 20, 60, 2]),
]


class ExamplesTest(unittest.TestCase):
    def test_rows(self):
        found = ask(*[call for call, _ in ROWS])
        for row, ((call, expected), answer) in enumerate(zip(ROWS, found)):
            with self.subTest(row=row, call=call):
                self.assertEqual(answer, expected)
