"""The table of examples: the rows of the calls that are built, in their order."""

import unittest

from tests.helper import (
    add_dough, ask, cool, create, remove_dough, set_temperature, stop_cooling, window,
)

ROWS = [
    (create(10, 2), [0]),
    (add_dough(0, 40, 100), [0]),
    (window(0), [2, 5]),
    (add_dough(0, 20, 60), [1]),
    (window(1), [1, 3]),
    (cool(1, 0, 2), [1, 3, 5]),
    (window(1), [3, 5]),
    (stop_cooling(0), [-6]),
    (set_temperature(5, 4), [24]),
    (add_dough(9, 50, 60), [2]),
    (window(2), [-33]),
    (remove_dough(2), [2]),
]


class ExamplesTest(unittest.TestCase):
    def test_rows(self):
        found = ask(*[call for call, _ in ROWS])
        for row, ((call, expected), answer) in enumerate(zip(ROWS, found)):
            with self.subTest(row=row, call=call):
                self.assertEqual(answer, expected)
