"""earliest_deadline."""

import unittest

from tests.helper import (
    create, earliest_deadline, kitchen, last_answer, plan, remove_dough, set_baking_time,
)


class EarliestDeadlineTest(unittest.TestCase):
    def check(self, expected, h, p, *windows):
        self.assertEqual(last_answer(*kitchen(h, p, *windows), earliest_deadline()), expected)

    def test_without_doughs(self):
        self.assertEqual(last_answer(create(10, 2), earliest_deadline()), [1])
        self.assertEqual(last_answer(create(1, 9), earliest_deadline()), [1])
        self.assertEqual(last_answer(*kitchen(10, 2, (1, 3)), remove_dough(0), earliest_deadline()), [1])

    def test_the_window_that_ends_first(self):
        self.check([1, 2, 0, 1], 20, 2, (1, 8), (1, 9), (1, 7))
        self.check([1, 1, 0], 10, 2, (2, 5), (1, 3))

    def test_only_of_windows_that_have_begun(self):
        # Dough 1 ends first, but hasn't begun at time 1.
        self.check([1, 0, 1], 20, 2, (1, 9), (2, 3))
        # It has begun just by the time at which the first one is finished.
        self.check([1, 0, 1, 2], 20, 2, (1, 9), (3, 5), (1, 10))
        self.check([1, 0, 2, 1], 20, 2, (1, 9), (4, 5), (1, 10))

    def test_of_equal_ends_the_smaller_number(self):
        self.check([1, 0, 1, 2], 20, 2, (1, 9), (1, 9), (1, 9))
        self.check([1, 2, 0, 1], 20, 2, (3, 9), (2, 9), (1, 9))
        # A begin that is earlier makes no difference among those that have begun.
        self.check([1, 3, 0, 1, 2], 21, 5, (3, 15), (2, 15), (1, 16), (1, 2))

    def test_the_time_becomes_the_earliest_beginning(self):
        self.check([1, 2, 1, 0], 20, 2, (9, 12), (6, 14), (3, 16))
        # At time 6 dough 0 hasn't begun yet, though its window ends first.
        self.check([1, 1, 0], 20, 2, (7, 8), (6, 14))

    def test_an_order_that_is_impossible(self):
        # There is a plan, for which the oven has to wait.
        calls = kitchen(10, 3, (1, 9), (2, 2))
        self.assertEqual(last_answer(*calls, earliest_deadline()), [0, 0, 1])
        self.assertEqual(last_answer(*calls, plan()), [8, 1, 0, 2, 5])

    def test_a_window_that_has_ended_comes_next_all_the_same(self):
        self.check([0, 0, 1, 2], 20, 2, (1, 1), (1, 1), (1, 5))
        self.check([0, 2, 1, 0], 20, 2, (1, 5), (1, 2), (1, 1))

    def test_the_time_increases_for_it_too(self):
        # The time is 1, 3 and 5 then, at which both last ones have begun.
        self.check([0, 0, 1, 2, 3], 20, 2, (1, 1), (1, 1), (5, 6), (4, 9))
        self.check([0, 0, 1, 3, 2], 20, 1, (1, 1), (1, 1), (5, 6), (4, 9))

    def test_not_finished_by_h(self):
        self.check([1, 0, 1], 9, 4, (1, 8), (1, 8))
        self.check([0, 0, 1], 8, 4, (1, 8), (1, 8))
        self.check([1, 0], 2, 1, (1, 1))
        self.check([0, 0], 1, 1, (1, 1))

    def test_beyond_h(self):
        # The time goes on beyond h, where all have begun.
        self.check([0, 2, 1, 3, 0], 10, 9, (2, 10), (2, 8), (1, 10), (2, 9))

    def test_doughs_without_a_window_come_last(self):
        self.check([0, 0], 10, 2, None)
        self.check([0, 0, 1, 2], 10, 2, None, None, None)
        self.check([0, 3, 1, 0, 2, 4], 10, 2, None, (2, 8), None, (1, 4), None)
        self.check([0, 1, 0], 10, 2, None, (1, 3))
        self.check([0, 0, 1], 10, 2, (1, 3), None)

    def test_six_doughs(self):
        self.check([1, 0, 1, 2, 3, 4, 5], 36, 5, *[(1, 36)] * 6)
        self.check([0, 0, 1, 2, 3, 4, 5], 36, 6, *[(1, 36)] * 6)
        self.check([1, 5, 4, 3, 2, 1, 0], 36, 5, (1, 36), (1, 35), (1, 34), (1, 33), (1, 32), (1, 31))
        self.check([1, 5, 4, 3, 2, 1, 0], 31, 5, (26, 31), (21, 21), (16, 16), (11, 11), (6, 6), (1, 1))
        self.check([0, 5, 4, 2, 1, 0, 3], 31, 5, (26, 31), (21, 21), (16, 16), None, (6, 6), (1, 1))

    def test_the_hours_of_baking(self):
        calls = kitchen(20, 1, (1, 9), (3, 5), (1, 10))
        self.assertEqual(last_answer(*calls, earliest_deadline()), [1, 0, 2, 1])
        self.assertEqual(last_answer(*calls, set_baking_time(2), earliest_deadline()), [1, 0, 1, 2])
