"""most_doughs and can_bake."""

import unittest

from tests.helper import (
    HIGHEST, LOWEST, OUT_OF_RANGE,
    add_dough, ask, ask_each, can_bake, create, kitchen, last_answer, most_doughs, remove_dough,
    set_baking_time,
)


class MostDoughsTest(unittest.TestCase):
    def test_without_doughs(self):
        self.assertEqual(last_answer(create(10, 2), most_doughs()), [0])
        self.assertEqual(last_answer(create(1, 9), most_doughs()), [0])
        self.assertEqual(last_answer(*kitchen(10, 2, (1, 3)), remove_dough(0), most_doughs()), [0])

    def test_all_doughs(self):
        self.assertEqual(last_answer(*kitchen(10, 2, (3, 7)), most_doughs()), [1, 0, 0])
        self.assertEqual(last_answer(*kitchen(10, 2, (2, 5), (1, 3)), most_doughs()), [2, 0, 1, 1, 0])

    def test_none_can_be_baked(self):
        for calls in (
            kitchen(10, 2, None), kitchen(10, 2, None, None, None), kitchen(5, 9, (1, 5), (1, 5)),
            kitchen(10, 2, (9, 10)), kitchen(1, 1, (1, 1)),
        ):
            with self.subTest(calls=calls):
                self.assertEqual(last_answer(*calls, most_doughs()), [0])

    def test_without_those_that_have_no_window(self):
        calls = kitchen(10, 2, None, (2, 5), None, (1, 3))
        self.assertEqual(last_answer(*calls, most_doughs()), [2, 1, 3, 3, 1])

    def test_the_smallest_set_number(self):
        calls = kitchen(10, 2, (1, 1), (1, 1), (5, 5), (5, 5))
        self.assertEqual(last_answer(*calls, most_doughs()), [2, 0, 2, 0, 2])
        # Of 0 and 3, 1 and 2, 1 and 3: the sum of 1 and 2 is 6, of 0 and 3 it is 9.
        calls = kitchen(12, 4, (3, 3), (1, 1), (5, 5), (7, 7))
        self.assertEqual(last_answer(*calls, most_doughs()), [2, 1, 2, 1, 2])
        self.assertEqual(ask_each(calls, [can_bake(9), can_bake(6)]), [[1], [1]])

    def test_more_doughs_come_before_a_smaller_set_number(self):
        # Dough 0 stands in the way of both others.
        calls = kitchen(12, 4, (3, 3), (1, 1), (5, 5))
        self.assertEqual(last_answer(*calls, most_doughs()), [2, 1, 2, 1, 2])
        calls = kitchen(10, 1, (9, 10), None, (1, 1), (9, 9), (2, 2))
        self.assertEqual(last_answer(*calls, most_doughs()), [3, 0, 2, 4, 2, 4, 0])

    def test_the_order_of_the_plan_for_them(self):
        calls = kitchen(10, 2, None, (2, 8), (1, 8), (8, 9))
        self.assertEqual(last_answer(*calls, most_doughs()), [3, 1, 2, 3, 1, 2, 3])
        calls = kitchen(10, 2, (8, 8), None, (2, 8), (1, 8), (8, 8))
        self.assertEqual(last_answer(*calls, most_doughs()), [3, 0, 2, 3, 2, 3, 0])
        calls = kitchen(10, 3, (1, 9), (2, 2), (2, 2))
        self.assertEqual(last_answer(*calls, most_doughs()), [2, 0, 1, 1, 0])

    def test_finished_at_h_just_so(self):
        for h, expected in [(4, [0]), (5, [1, 0, 0]), (8, [1, 0, 0]), (9, [2, 0, 1, 0, 1])]:
            with self.subTest(h=h):
                self.assertEqual(last_answer(*kitchen(h, 4, (1, h), (1, h)), most_doughs()), expected)

    def test_six_doughs(self):
        for p, count in [(1, 6), (5, 6), (6, 5), (7, 5), (8, 4), (9, 3)]:
            with self.subTest(p=p):
                doughs = list(range(count))
                expected = [count] + doughs + doughs
                self.assertEqual(last_answer(*kitchen(36, p, *[(1, 36)] * 6), most_doughs()), expected)
        calls = kitchen(31, 5, (26, 31), (21, 21), (16, 16), (11, 11), (6, 6), (1, 1))
        self.assertEqual(last_answer(*calls, most_doughs()), [6, 0, 1, 2, 3, 4, 5, 5, 4, 3, 2, 1, 0])
        calls = kitchen(31, 5, (27, 31), (21, 21), None, (11, 11), (6, 6), (1, 1))
        self.assertEqual(last_answer(*calls, most_doughs()), [4, 1, 3, 4, 5, 5, 4, 3, 1])

    def test_the_hours_of_baking(self):
        calls = kitchen(10, 1, (1, 5), (1, 5)) + [set_baking_time(5), most_doughs()]
        self.assertEqual(last_answer(*calls), [1, 0, 0])


class CanBakeTest(unittest.TestCase):
    def test_each_set(self):
        calls = kitchen(10, 2, (1, 1), (1, 2), None, (8, 10))
        expected = [number in (0, 1, 2, 8, 9, 10) for number in range(16)]
        found = ask_each(calls, [can_bake(number) for number in range(16)])
        self.assertEqual(found, [[int(can)] for can in expected])

    def test_the_empty_set(self):
        for calls in ([create(10, 2)], [create(1, 9)], kitchen(10, 2, None), kitchen(1, 1, (1, 1))):
            with self.subTest(calls=calls):
                self.assertEqual(last_answer(*calls, can_bake(0)), [1])

    def test_edges_of_the_range(self):
        for count in range(7):
            calls = kitchen(36, 5, *[(1, 36)] * count)
            with self.subTest(count=count):
                last = 2 ** count - 1
                queries = [can_bake(number) for number in (0, last, last + 1, last + 2, -1, LOWEST, HIGHEST)]
                self.assertEqual(ask_each(calls, queries), [[1], [1]] + [OUT_OF_RANGE] * 5)

    def test_out_of_range_where_nothing_can_be_baked(self):
        for number in (-1, -2, 4, 5, 64, LOWEST, HIGHEST):
            with self.subTest(number=number):
                self.assertEqual(last_answer(*kitchen(10, 2, None, None), can_bake(number)), OUT_OF_RANGE)

    def test_another_order_than_by_the_numbers(self):
        calls = kitchen(31, 5, (26, 31), (21, 21), (16, 16), (11, 11), (6, 6), (1, 1))
        self.assertEqual(ask_each(calls, [can_bake(number) for number in range(64)]), [[1]] * 64)
        self.assertEqual(last_answer(*kitchen(10, 3, (1, 9), (2, 2)), can_bake(3)), [1])

    def test_finished_at_h_just_so(self):
        for h, expected in [(8, [0]), (9, [1]), (10, [1])]:
            with self.subTest(h=h):
                self.assertEqual(last_answer(*kitchen(h, 4, (1, 8), (1, 8)), can_bake(3)), expected)
        self.assertEqual(last_answer(*kitchen(35, 5, *[(5, 35)] * 6), can_bake(63)), [1])
        self.assertEqual(last_answer(*kitchen(34, 5, *[(5, 34)] * 6), can_bake(63)), [0])

    def test_after_changes(self):
        calls = kitchen(10, 2, (1, 1), (1, 2))
        calls += [can_bake(3), set_baking_time(1), can_bake(3), remove_dough(0), can_bake(3), can_bake(1)]
        calls += [add_dough(0, 999, 999), can_bake(1), can_bake(2), can_bake(3)]
        self.assertEqual(ask(*calls)[4:], [[0], [2], [1], [1], OUT_OF_RANGE, [1], [1], [1], [0], [0]])
