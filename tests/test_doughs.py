"""add_dough and remove_dough."""

import unittest

from tests.helper import (
    HIGHEST, LOWEST, MISSING, NOT_COOLED, OUT_OF_RANGE, TOO_MANY_DOUGHS,
    add_dough, ask, cool, create, last_answer, remove_dough, set_temperatures, stop_cooling, window,
)

# Each one is refused in an instance of 10 hours.
REFUSED = [(mixed_at, 40, 100) for mixed_at in (-1, 10, 11, -10, LOWEST, HIGHEST)]
REFUSED += [(0, minimum, 999) for minimum in (0, -1, 1000, LOWEST, HIGHEST)]
REFUSED += [(0, 1, maximum) for maximum in (0, -1, 1000, LOWEST, HIGHEST)]
REFUSED += [(0, 41, 40), (0, 999, 998), (0, 2, 1), (0, 1000, 1000), (0, 0, 0), (-1, 0, 1000)]

SIX = [add_dough(0, 40 + i, 100) for i in range(6)]


class AddDoughTest(unittest.TestCase):
    def test_answers_the_numbers_from_0_on(self):
        self.assertEqual(ask(create(10, 2), *SIX), [[0], [0], [1], [2], [3], [4], [5]])

    def test_edges_within(self):
        for mixed_at, minimum, maximum in [(0, 1, 1), (9, 1, 999), (0, 999, 999), (9, 40, 40), (0, 998, 999)]:
            with self.subTest(mixed_at=mixed_at, minimum=minimum, maximum=maximum):
                self.assertEqual(last_answer(create(10, 2), add_dough(mixed_at, minimum, maximum)), [0])

    def test_mixing_in_the_last_hour(self):
        for h in (1, 2, 36):
            with self.subTest(h=h):
                found = ask(create(h, 2), add_dough(h - 1, 1, 999), window(0), add_dough(h, 1, 999))
                self.assertEqual(found, [[0], [0], [h, h], OUT_OF_RANGE])

    def test_edges_outside(self):
        for mixed_at, minimum, maximum in REFUSED:
            with self.subTest(mixed_at=mixed_at, minimum=minimum, maximum=maximum):
                calls = [create(10, 2), add_dough(mixed_at, minimum, maximum), window(0), add_dough(0, 1, 1)]
                self.assertEqual(ask(*calls), [[0], OUT_OF_RANGE, MISSING, [0]])

    def test_no_seventh_dough(self):
        calls = [create(10, 2), *SIX, add_dough(0, 1, 999), window(6), remove_dough(0), add_dough(0, 1, 999)]
        self.assertEqual(ask(*calls)[7:], [TOO_MANY_DOUGHS, MISSING, [5], [5]])

    def test_a_parameter_out_of_range_comes_before_too_many_doughs(self):
        for mixed_at, minimum, maximum in REFUSED:
            with self.subTest(mixed_at=mixed_at, minimum=minimum, maximum=maximum):
                found = last_answer(create(10, 2), *SIX, add_dough(mixed_at, minimum, maximum))
                self.assertEqual(found, OUT_OF_RANGE)

    def test_it_is_never_cooled_at_first(self):
        calls = [create(10, 2), add_dough(0, 40, 100), cool(0, 0, 10), add_dough(0, 40, 100)]
        self.assertEqual(ask(*calls, stop_cooling(1), window(1))[4:], [NOT_COOLED, [2, 5]])
        calls = [create(10, 2), add_dough(0, 40, 100), cool(0, 0, 10), remove_dough(0), add_dough(0, 40, 100)]
        self.assertEqual(ask(*calls, stop_cooling(0), window(0))[5:], [NOT_COOLED, [2, 5]])

    def test_minimum_and_maximum_are_reached(self):
        # One degree above 4, so that the time since the mixing is what it has risen.
        calls = [create(36, 2), set_temperatures(0, 36, 5), add_dough(3, 7, 11), window(0)]
        self.assertEqual(last_answer(*calls), [10, 14])


class RemoveDoughTest(unittest.TestCase):
    def doughs(self):
        """Four doughs with different windows; the last one is cooled."""
        return [
            create(10, 2), add_dough(0, 20, 20), add_dough(1, 20, 20), add_dough(2, 20, 20),
            add_dough(3, 20, 20), cool(3, 3, 4),
        ]

    def test_answers_how_many_remain(self):
        calls = self.doughs() + [remove_dough(0)] * 5
        self.assertEqual(ask(*calls)[6:], [[3], [2], [1], [0], MISSING])

    def test_later_numbers_decrease(self):
        windows = [[1, 1], [2, 2], [3, 3], [5, 5]]
        for i in range(4):
            with self.subTest(i=i):
                calls = self.doughs() + [remove_dough(i)] + [window(j) for j in range(4)]
                expected = windows[:i] + windows[i + 1:] + [MISSING]
                self.assertEqual(ask(*calls)[7:], expected)

    def test_cooling_goes_along_with_its_dough(self):
        calls = self.doughs() + [remove_dough(1), stop_cooling(1), stop_cooling(2), window(2)]
        self.assertEqual(ask(*calls)[7:], [NOT_COOLED, [0], [4, 4]])

    def test_the_next_dough_comes_last(self):
        calls = self.doughs() + [remove_dough(0), add_dough(0, 40, 40), window(3), window(0)]
        self.assertEqual(ask(*calls)[6:], [[3], [3], [2, 2], [2, 2]])

    def test_edges(self):
        for i in (-1, -4, 4, 5, 6, LOWEST, HIGHEST):
            with self.subTest(i=i):
                calls = self.doughs() + [remove_dough(i), remove_dough(3)]
                self.assertEqual(ask(*calls)[6:], [MISSING, [3]])
        for i in (-1, 0, LOWEST, HIGHEST):
            with self.subTest(i=i):
                self.assertEqual(last_answer(create(10, 2), remove_dough(i)), MISSING)
