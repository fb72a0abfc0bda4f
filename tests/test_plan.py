"""plan."""

import unittest

from tests.helper import (
    NO_ORDER,
    add_dough, ask, create, kitchen, last_answer, plan, remove_dough, set_baking_time, start_times,
)


class PlanTest(unittest.TestCase):
    def test_without_doughs(self):
        for h, p in [(1, 1), (1, 9), (10, 2), (36, 9)]:
            with self.subTest(h=h, p=p):
                self.assertEqual(last_answer(create(h, p), plan()), [0])
        self.assertEqual(last_answer(*kitchen(10, 2, (1, 3)), remove_dough(0), plan()), [0])

    def test_one_dough(self):
        self.assertEqual(last_answer(*kitchen(10, 2, (3, 7)), plan()), [5, 0, 3])

    def test_the_last_one_is_finished_first(self):
        self.assertEqual(last_answer(*kitchen(10, 2, (2, 5), (1, 3)), plan()), [5, 1, 0, 1, 3])
        self.assertEqual(last_answer(*kitchen(10, 2, (3, 8), (1, 8)), plan()), [5, 1, 0, 1, 3])
        self.assertEqual(last_answer(*kitchen(20, 3, (9, 9), (4, 9), (1, 20)), plan()), [12, 2, 1, 0, 1, 4, 9])

    def test_the_oven_may_have_to_wait(self):
        # Dough 0 could be baked at once, but then dough 1 couldn't.
        self.assertEqual(last_answer(*kitchen(10, 3, (1, 9), (2, 2)), plan()), [8, 1, 0, 2, 5])

    def test_the_lexicographically_first_one(self):
        self.assertEqual(last_answer(*kitchen(10, 2, (1, 8), (1, 8)), plan()), [5, 0, 1, 1, 3])
        calls = kitchen(10, 2, (1, 8), (6, 8), (1, 8))
        self.assertEqual(last_answer(*calls, plan()), [8, 0, 2, 1, 1, 3, 6])

    def test_the_lexicographically_first_one_may_begin_later(self):
        # 1, 0, 2 has the oven free sooner behind 0, but is finished no sooner.
        calls = kitchen(10, 2, (2, 8), (1, 8), (8, 9))
        self.assertEqual(last_answer(*calls, plan()), [10, 0, 1, 2, 2, 4, 8])
        self.assertEqual(last_answer(*calls, start_times([1, 0, 2])), [3, 1, 3, 8])
        self.assertEqual(last_answer(*calls, remove_dough(2), plan()), [5, 1, 0, 1, 3])

    def test_finished_sooner_comes_before_the_order(self):
        calls = kitchen(30, 3, (4, 30), (3, 30), (2, 30), (1, 30))
        self.assertEqual(last_answer(*calls, plan()), [13, 3, 0, 1, 2, 1, 4, 7, 10])

    def test_finished_at_h_just_so(self):
        for h, expected in [(8, NO_ORDER), (9, [9, 0, 1, 1, 5]), (10, [9, 0, 1, 1, 5])]:
            with self.subTest(h=h):
                self.assertEqual(last_answer(*kitchen(h, 4, (1, 8), (1, 8)), plan()), expected)
        for h, expected in [(1, NO_ORDER), (2, [2, 0, 1]), (3, [2, 0, 1])]:
            with self.subTest(h=h):
                self.assertEqual(last_answer(*kitchen(h, 1, (1, 1)), plan()), expected)

    def test_no_possible_order(self):
        for calls in (
            kitchen(10, 2, None), kitchen(10, 2, (1, 3), None), kitchen(10, 2, None, (1, 3)),
            kitchen(10, 2, (1, 1), (1, 2)), kitchen(10, 2, (2, 2), (1, 3)), kitchen(10, 2, (9, 10)),
            kitchen(10, 9, (2, 10)), kitchen(1, 1, (1, 1)),
        ):
            with self.subTest(calls=calls):
                self.assertEqual(last_answer(*calls, plan()), NO_ORDER)

    def test_the_hours_of_baking(self):
        calls = kitchen(10, 1, (1, 5), (1, 5))
        calls += [set_baking_time(4), plan(), set_baking_time(5), plan(), set_baking_time(1), plan()]
        self.assertEqual(ask(*calls)[-5:], [[9, 0, 1, 1, 5], [4], NO_ORDER, [5], [3, 0, 1, 1, 2]])

    def test_six_doughs(self):
        calls = kitchen(36, 5, *[(1, 36)] * 6)
        self.assertEqual(last_answer(*calls, plan()), [31, 0, 1, 2, 3, 4, 5, 1, 6, 11, 16, 21, 26])
        self.assertEqual(last_answer(*calls, set_baking_time(6), plan()), NO_ORDER)
        calls = kitchen(31, 5, (26, 31), (21, 21), (16, 16), (11, 11), (6, 6), (1, 1))
        self.assertEqual(last_answer(*calls, plan()), [31, 5, 4, 3, 2, 1, 0, 1, 6, 11, 16, 21, 26])
        calls = kitchen(30, 5, (26, 30), (21, 21), (16, 16), (11, 11), (6, 6), (1, 1))
        self.assertEqual(last_answer(*calls, plan()), NO_ORDER)

    def test_six_doughs_and_one_without_a_window(self):
        calls = kitchen(36, 1, *[(1, 36)] * 5)
        self.assertEqual(last_answer(*calls, plan())[0], 6)
        self.assertEqual(last_answer(*calls, add_dough(0, 999, 999), plan()), NO_ORDER)
