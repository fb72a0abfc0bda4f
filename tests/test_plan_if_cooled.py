"""plan_if_cooled."""

import unittest

from tests.helper import (
    HIGHEST, LOWEST, MISSING, NO_ORDER, OUT_OF_RANGE,
    add_dough, ask, cool, create, describe, kitchen, last_answer, plan, plan_if_cooled, remove_dough,
    set_temperature, stop_cooling, window,
)

TWO = [create(10, 2), add_dough(0, 40, 100), add_dough(0, 20, 60)]
# None of these has a possible order of all doughs, cooled or not.
IMPOSSIBLE = kitchen(10, 2, (2, 5), None)
SIX = kitchen(20, 2, (1, 9), (2, 12), (1, 14), (3, 14), (5, 16), (1, 18)) + [cool(3, 2, 4)]
SIX_AND_NO_WINDOW = kitchen(20, 2, (1, 9), (2, 12), (1, 14), (3, 14), None, (1, 18))

NO_DOUGH = (-1, -2, 2, 3, 6, LOWEST, HIGHEST)
OUTSIDE = [
    (0, 0), (5, 5), (10, 10), (5, 4), (10, 0), (-1, 5), (-1, 0), (0, 11), (10, 11), (11, 12), (-2, -1),
    (LOWEST, 5), (5, LOWEST), (5, HIGHEST), (HIGHEST, 5), (LOWEST, HIGHEST), (HIGHEST, LOWEST),
    (LOWEST, LOWEST), (HIGHEST, HIGHEST),
]


class PlanIfCooledTest(unittest.TestCase):
    def test_the_plan_then(self):
        found = ask(*TWO, plan_if_cooled(0, 0, 4), plan_if_cooled(1, 0, 2), plan_if_cooled(1, 0, 3), plan())
        self.assertEqual(found[3:], [[8, 1, 0, 1, 6], [6, 0, 1, 2, 4], [6, 0, 1, 2, 4], [5, 1, 0, 1, 3]])

    def test_in_addition_to_earlier_hours(self):
        calls = TWO + [cool(0, 0, 2), plan(), plan_if_cooled(0, 3, 4), plan_if_cooled(0, 0, 2)]
        self.assertEqual(ask(*calls)[4:], [[6, 1, 0, 1, 4], [7, 1, 0, 1, 5], [6, 1, 0, 1, 4]])

    def test_a_window_can_come_of_it(self):
        # In the first hour, at 24 degrees, it rises past its maximum, unless it is cooled.
        calls = [create(10, 2), set_temperature(1, 10), add_dough(0, 6, 10)]
        calls += [plan(), plan_if_cooled(0, 0, 1), plan()]
        self.assertEqual(ask(*calls)[3:], [NO_ORDER, [4, 0, 2], NO_ORDER])

    def test_edges_within(self):
        for start, to in [(0, 1), (0, 2), (9, 10), (8, 10), (3, 4)]:
            with self.subTest(start=start, to=to):
                expected = last_answer(*TWO, cool(1, start, to), plan())
                self.assertEqual(last_answer(*TWO, plan_if_cooled(1, start, to)), expected)
                self.assertEqual(len(expected), 5)
        self.assertEqual(last_answer(*TWO, plan_if_cooled(0, 0, 10)), NO_ORDER)
        self.assertEqual(last_answer(create(1, 1), add_dough(0, 1, 1), plan_if_cooled(0, 0, 1)), NO_ORDER)
        calls = [create(36, 1), add_dough(0, 20, 20), plan_if_cooled(0, 35, 36), plan_if_cooled(0, 0, 34)]
        self.assertEqual(ask(*calls)[2:], [[2, 0, 1], [36, 0, 35]])

    def test_finished_at_h_just_so(self):
        calls = kitchen(10, 2, (2, 5))
        found = ask(*calls, plan_if_cooled(0, 0, 6), plan_if_cooled(0, 0, 7), plan_if_cooled(0, 0, 8))
        self.assertEqual(found[3:], [[10, 0, 8], NO_ORDER, NO_ORDER])

    def test_edges_outside(self):
        for calls in (TWO, IMPOSSIBLE):
            for i in (0, 1):
                for start, to in OUTSIDE:
                    with self.subTest(i=i, start=start, to=to):
                        self.assertEqual(last_answer(*calls, plan_if_cooled(i, start, to)), OUT_OF_RANGE)

    def test_no_dough(self):
        for calls in (TWO, IMPOSSIBLE):
            for i in NO_DOUGH:
                for start, to in [(0, 1), (0, 10)] + OUTSIDE:
                    with self.subTest(i=i, start=start, to=to):
                        self.assertEqual(last_answer(*calls, plan_if_cooled(i, start, to)), MISSING)
        self.assertEqual(last_answer(create(10, 2), plan_if_cooled(0, 0, 1)), MISSING)
        self.assertEqual(last_answer(*TWO, remove_dough(0), plan_if_cooled(1, 0, 1)), MISSING)

    def test_no_possible_order(self):
        for i in (0, 1):
            with self.subTest(i=i):
                self.assertEqual(last_answer(*IMPOSSIBLE, plan_if_cooled(i, 0, 1)), NO_ORDER)
        # Cooled so long, dough 1 is still waiting when the window of dough 0 has ended.
        self.assertEqual(last_answer(*kitchen(10, 3, (3, 4), (1, 2)), plan_if_cooled(1, 0, 1)), NO_ORDER)

    def check_every_cooling(self, calls, count, h):
        """Against plan after cool, and that nothing is changed."""
        before = ask(*calls, plan(), describe(), *[window(i) for i in range(count)])[len(calls):]
        for i in range(count):
            for start in range(h):
                for to in range(start + 1, h + 1):
                    expected = last_answer(*calls, cool(i, start, to), plan())
                    queries = [plan(), describe()] + [window(j) for j in range(count)]
                    found = ask(*calls, plan_if_cooled(i, start, to), *queries)[len(calls):]
                    self.assertEqual(found, [expected] + before, (i, start, to))

    def test_what_plan_answers_after_the_same_cool(self):
        self.check_every_cooling(TWO, 2, 10)
        self.check_every_cooling(TWO + [cool(0, 1, 2), cool(1, 4, 7)], 2, 10)
        self.check_every_cooling(IMPOSSIBLE, 2, 10)

    def test_six_doughs(self):
        self.check_every_cooling(SIX, 6, 20)

    def test_six_doughs_and_one_without_a_window(self):
        for i in range(6):
            with self.subTest(i=i):
                self.assertEqual(last_answer(*SIX_AND_NO_WINDOW, plan_if_cooled(i, 0, 1)), NO_ORDER)

    def test_it_is_not_cooled_by_it(self):
        calls = TWO + [plan_if_cooled(0, 0, 4), stop_cooling(0), cool(0, 5, 6), plan_if_cooled(0, 0, 4)]
        calls += [describe(), stop_cooling(0), stop_cooling(0)]
        self.assertEqual(ask(*calls)[4:6], [[-6], [1, 2, 6]])
        self.assertEqual(ask(*calls)[7:], [[10] + [24] * 10 + [2, 2, 0, 40, 100, 1, 0, 20, 60, 0], [0], [-6]])
