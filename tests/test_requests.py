"""What holds for every call: the form of a request, -11, and that errors and queries change nothing."""

import contextlib
import io
import unittest

from bakehours.oven import answers
from tests.helper import (
    HIGHEST, LOWEST, MISSING, NO_INSTANCE, NO_ORDER, NO_WINDOW, NOT_COOLED, OUT_OF_RANGE, TOO_MANY_DOUGHS,
    add_dough, ask, can_bake, cool, create, describe, earliest_deadline, last_answer, most_doughs, plan,
    plan_if_cooled, remove_dough, risen, set_baking_time, set_temperature, set_temperatures, start_times,
    state_after, stop_cooling, window,
)

# Every call but create, with what would be right and with what would be wrong.
OTHER_CALLS = [
    set_temperature(0, 20), set_temperature(-1, 41), set_temperatures(0, 1, 20), set_temperatures(1, 0, 41),
    add_dough(0, 1, 1), add_dough(-1, 0, 1000), remove_dough(0), remove_dough(-1), cool(0, 0, 1),
    cool(-1, 1, 0), stop_cooling(0), stop_cooling(LOWEST), set_baking_time(1), set_baking_time(HIGHEST),
    window(0), window(-1), risen(0, 0), risen(-1, -1), start_times([]), start_times([1, 0]),
    start_times([-1, -1, LOWEST]), start_times([0] * 70), plan(), most_doughs(), earliest_deadline(),
    can_bake(0), can_bake(-1), plan_if_cooled(0, 0, 1), plan_if_cooled(-1, 1, 0), describe(),
]

INSTANCE = [
    create(8, 3), set_temperatures(0, 3, 18), set_temperature(6, 31), add_dough(0, 30, 70),
    add_dough(1, 20, 45), add_dough(7, 28, 28), cool(0, 2, 4), cool(1, 0, 1),
]

FULL = INSTANCE + [add_dough(i, 36, 90) for i in range(3)]

# Calls on the instance above, with the error that each one returns.
ERRORS = [
    (create(0, 3), OUT_OF_RANGE), (create(37, 3), OUT_OF_RANGE), (create(8, 0), OUT_OF_RANGE),
    (create(8, 10), OUT_OF_RANGE), (set_temperature(-1, 20), MISSING), (set_temperature(8, 20), MISSING),
    (set_temperature(0, -1), OUT_OF_RANGE), (set_temperature(7, 41), OUT_OF_RANGE),
    (set_temperatures(-1, 8, 20), OUT_OF_RANGE), (set_temperatures(0, 9, 20), OUT_OF_RANGE),
    (set_temperatures(5, 4, 20), OUT_OF_RANGE), (set_temperatures(0, 8, -1), OUT_OF_RANGE),
    (set_temperatures(0, 8, 41), OUT_OF_RANGE), (add_dough(-1, 30, 70), OUT_OF_RANGE),
    (add_dough(8, 30, 70), OUT_OF_RANGE), (add_dough(0, 0, 70), OUT_OF_RANGE),
    (add_dough(0, 30, 1000), OUT_OF_RANGE), (add_dough(0, 31, 30), OUT_OF_RANGE),
    (remove_dough(-1), MISSING), (remove_dough(3), MISSING), (cool(-1, 0, 8), MISSING),
    (cool(3, 0, 8), MISSING), (cool(0, -1, 8), OUT_OF_RANGE), (cool(0, 0, 9), OUT_OF_RANGE),
    (cool(0, 5, 5), OUT_OF_RANGE), (cool(0, 6, 5), OUT_OF_RANGE), (stop_cooling(-1), MISSING),
    (stop_cooling(3), MISSING), (stop_cooling(2), NOT_COOLED), (set_baking_time(0), OUT_OF_RANGE),
    (set_baking_time(10), OUT_OF_RANGE), (window(-1), MISSING), (window(3), MISSING), (window(2), NO_WINDOW),
    (risen(-1, 0), MISSING), (risen(3, 0), MISSING), (risen(0, -1), OUT_OF_RANGE), (risen(0, 9), OUT_OF_RANGE),
    (start_times([3]), OUT_OF_RANGE), (start_times([0, 0]), OUT_OF_RANGE), (start_times([2]), NO_ORDER),
    (plan(), NO_ORDER), (can_bake(-1), OUT_OF_RANGE), (can_bake(8), OUT_OF_RANGE),
    (plan_if_cooled(3, 0, 8), MISSING), (plan_if_cooled(0, 5, 5), OUT_OF_RANGE),
    (plan_if_cooled(0, 6, 8), NO_ORDER), (plan_if_cooled(1, 0, 8), NO_ORDER),
]

# All three doughs of this one can be baked, so that no query is refused for want of an order.
BAKEABLE = [
    create(12, 2), set_temperatures(3, 5, 11), add_dough(0, 30, 90), add_dough(1, 20, 150),
    add_dough(5, 10, 120), cool(0, 2, 4), cool(2, 5, 6),
]

# Calls that only ask, and that answer no error on the instance above.
QUERIES = [
    window(0), window(2), risen(0, 0), risen(1, 12), start_times([]), start_times([0, 1, 2]), start_times([1]),
    plan(), most_doughs(), earliest_deadline(), can_bake(0), can_bake(5), can_bake(7), plan_if_cooled(0, 0, 2),
    plan_if_cooled(1, 11, 12), plan_if_cooled(2, 0, 8), describe(),
]


class NoInstanceTest(unittest.TestCase):
    def test_before_any_create(self):
        for call in OTHER_CALLS:
            with self.subTest(call=call):
                self.assertEqual(ask(call), [NO_INSTANCE])

    def test_after_a_create_that_failed(self):
        for call in OTHER_CALLS:
            with self.subTest(call=call):
                self.assertEqual(ask(create(37, 2), call), [OUT_OF_RANGE, NO_INSTANCE])

    def test_each_call_is_as_long_as_it_is_told(self):
        for call in OTHER_CALLS:
            with self.subTest(call=call):
                calls = [call, call, create(10, 2), set_baking_time(5)]
                self.assertEqual(ask(*calls), [NO_INSTANCE, NO_INSTANCE, [0], [2]])

    def test_nothing_is_done_before_a_create(self):
        calls = [add_dough(0, 1, 999), set_temperature(0, 40), set_baking_time(9)]
        self.assertEqual(state_after(calls + [create(10, 2)]), state_after([create(10, 2)]))


class UnchangedTest(unittest.TestCase):
    def test_the_instance_shows_its_changes(self):
        # Else it would say nothing that the state is the same after an error.
        changes = [
            create(8, 3), set_temperature(7, 23), set_temperatures(2, 4, 20), add_dough(0, 30, 70),
            remove_dough(0), remove_dough(2), cool(0, 4, 5), cool(2, 0, 8), stop_cooling(0),
            stop_cooling(1), set_baking_time(4),
        ]
        for call in changes:
            with self.subTest(call=call):
                self.assertNotEqual(state_after(INSTANCE + [call]), state_after(INSTANCE))

    def test_errors(self):
        before = state_after(INSTANCE)
        for call, error in ERRORS:
            with self.subTest(call=call):
                self.assertEqual(last_answer(*INSTANCE, call), error)
                self.assertEqual(state_after(INSTANCE + [call]), before)

    def test_a_seventh_dough(self):
        self.assertEqual(last_answer(*FULL, add_dough(0, 36, 90)), TOO_MANY_DOUGHS)
        self.assertEqual(state_after(FULL + [add_dough(0, 36, 90)]), state_after(FULL))

    def test_queries(self):
        for calls in (INSTANCE, BAKEABLE):
            before = state_after(calls)
            for call in QUERIES:
                with self.subTest(call=call):
                    self.assertEqual(state_after(calls + [call]), before)

    def test_queries_answer_no_error(self):
        # Else it would say nothing of them that the state is the same.
        found = ask(*BAKEABLE, *QUERIES)[len(BAKEABLE):]
        for call, answer in zip(QUERIES, found):
            with self.subTest(call=call):
                self.assertGreaterEqual(min(answer), 0)

    def test_queries_answer_the_same_in_any_order(self):
        found = ask(*BAKEABLE, *QUERIES, *reversed(QUERIES))[len(BAKEABLE):]
        self.assertEqual(found[:len(QUERIES)], found[:len(QUERIES) - 1:-1])


class RequestTest(unittest.TestCase):
    def test_how_many_numbers_then_these(self):
        calls = [0, 10, 2, 3, 0, 40, 100, 8, 0, 5, 0, 0, 2, 5, 0, 0, 10, 8, 0, 8, 1]
        self.assertEqual(answers(calls), [1, 0, 1, 0, 2, 2, 5, 3, 1, 4, 7, 1, 0, 1, -33, 1, -2])

    def test_one_call(self):
        self.assertEqual(answers([0, 10, 2]), [1, 0])
        self.assertEqual(answers([0, 0, 2]), [1, -22])
        self.assertEqual(answers([8, 0]), [1, -11])

    def test_every_call_is_answered(self):
        for calls in ([create(1, 1)], INSTANCE, FULL, BAKEABLE):
            for call in OTHER_CALLS + QUERIES:
                with self.subTest(call=call):
                    self.assertGreater(len(last_answer(*calls, call)), 0)

    def test_sixty_calls(self):
        calls = [create(36, 9)] + [add_dough(0, 20, 40)] * 6 + [window(5)] * 53
        self.assertEqual(ask(*calls), [[0]] + [[i] for i in range(6)] + [[1, 2]] * 53)

    def test_what_is_handed_in_stays_as_it_was(self):
        handed_in = [number for call in FULL + [call for call, _ in ERRORS] for number in call]
        kept = list(handed_in)
        given_back = answers(handed_in)
        self.assertEqual(handed_in, kept)
        given_back.append(0)
        self.assertEqual(handed_in, kept)

    def test_a_second_request_starts_without_an_instance(self):
        self.assertEqual(ask(*INSTANCE)[0], [0])
        for call in OTHER_CALLS:
            with self.subTest(call=call):
                self.assertEqual(ask(call), [NO_INSTANCE])

    def test_the_same_request_twice(self):
        self.assertEqual(ask(*INSTANCE, window(0)), ask(*INSTANCE, window(0)))

    def test_an_answer_given_back_is_not_kept(self):
        request = [0, 10, 2, 3, 0, 40, 100, 8, 0]
        first = answers(request)
        first.clear()
        self.assertEqual(answers(request), [1, 0, 1, 0, 2, 2, 5])

    def test_nothing_is_printed(self):
        printed = io.StringIO()
        with contextlib.redirect_stdout(printed), contextlib.redirect_stderr(printed):
            ask(*INSTANCE, window(0), window(2))
        self.assertEqual(printed.getvalue(), "")
