"""The queries of many instances against the document's words, and the requirements on plans."""

import itertools
import unittest

from tests.helper import (
    NO_ORDER, NO_WINDOW,
    Numbers, add_dough, all_sets, ask_each, can_bake, cool, create, deadline_order_by_words,
    earliest_deadline, freely_finished, kitchen, last_answer, most_doughs, most_doughs_by_words, plan,
    plan_by_words, set_temperature, start_times, times_by_words, window, window_by_words,
)


def kitchen_of(numbers):
    """An instance with up to six windows of many kinds."""
    h = numbers.one_of([6, 10, 14, 20, 36])
    windows = []
    for i in range(numbers.one_of([3, 4, 5, 6, 6])):
        begin = 1 + numbers.below(h)
        times = (begin, min(h, begin + numbers.below(1 + numbers.one_of([2, h // 2, h]))))
        windows.append(None if numbers.below(12) == 0 else times)
    return h, 1 + numbers.below(numbers.one_of([2, 4, 9])), windows


def schedule_of(numbers):
    """The calls for an instance with temperatures and cooling of many kinds, h, p and its windows."""
    h = 4 + numbers.below(12)
    p = 1 + numbers.below(3)
    temperatures = [numbers.one_of([0, 3, 4, 5, 14, 24, 40]) for hour in range(h)]
    calls = [create(h, p)] + [set_temperature(t, warm) for t, warm in enumerate(temperatures)]
    windows = []
    for i in range(1 + numbers.below(6)):
        mixed_at = numbers.below(h // 2)
        minimum = 1 + numbers.below(60)
        maximum = minimum + numbers.below(90)
        start = numbers.below(h)
        to = start + numbers.below(h - start + 1)
        calls.append(add_dough(mixed_at, minimum, maximum))
        if start < to:
            calls.append(cool(i, start, to))
        windows.append(window_by_words(temperatures, mixed_at, minimum, maximum, range(start, to)))
    return calls, h, p, windows


class ByTheWordsTest(unittest.TestCase):
    def check(self, calls, h, p, windows):
        """All queries without parameters, and can_bake of each set."""
        count = len(windows)
        queries = [plan(), most_doughs(), earliest_deadline()] + [can_bake(number) for number in range(2 ** count)]
        found = ask_each(calls, queries)
        best = plan_by_words(range(count), windows, h, p)
        self.assertEqual(found[0], NO_ORDER if best is None else [best[0]] + best[1] + best[2], (h, p, windows))
        doughs, order = most_doughs_by_words(windows, h, p)
        self.assertEqual(found[1], [len(doughs)] + doughs + order, (h, p, windows))
        order = deadline_order_by_words(windows, p)
        possible = times_by_words(order, windows, h, p) is not None
        self.assertEqual(found[2], [int(possible)] + order, (h, p, windows))
        sets = [[int(plan_by_words(doughs, windows, h, p) is not None)] for doughs in all_sets(count)]
        self.assertEqual(found[3:], sets, (h, p, windows))

    def test_all_small_ones(self):
        for h in (1, 2, 3):
            choices = [None] + [(first, last) for first in range(1, h + 1) for last in range(first, h + 1)]
            for count in range(4):
                for windows in itertools.product(choices, repeat=count):
                    for p in (1, 2, 3):
                        self.check(kitchen(h, p, *windows), h, p, windows)

    def test_windows_of_many_kinds(self):
        numbers = Numbers(1)
        for time in range(150):
            h, p, windows = kitchen_of(numbers)
            self.check(kitchen(h, p, *windows), h, p, windows)

    def test_temperatures_and_cooling_of_many_kinds(self):
        numbers = Numbers(2)
        for time in range(150):
            calls, h, p, windows = schedule_of(numbers)
            found = ask_each(calls, [window(i) for i in range(len(windows))])
            self.assertEqual(found, [NO_WINDOW if times is None else list(times) for times in windows])
            self.check(calls, h, p, windows)


class RequirementsTest(unittest.TestCase):
    def instances(self):
        numbers = Numbers(3)
        return [kitchen_of(numbers) for time in range(100)]

    def test_plans(self):
        # There is a plan if and only if they can be baked at whatever times, and it is finished as early.
        for h, p, windows in self.instances():
            finished = freely_finished(range(len(windows)), windows, h, p)
            found = last_answer(*kitchen(h, p, *windows), plan())
            self.assertEqual(found[0], -33 if finished is None else finished, (h, p, windows))

    def test_most_doughs(self):
        for h, p, windows in self.instances():
            found = last_answer(*kitchen(h, p, *windows), most_doughs())
            count = found[0]
            doughs, order = found[1:1 + count], found[1 + count:]
            times = last_answer(*kitchen(h, p, *windows), start_times(order))[1:]
            # Those can be baked: the oven holds one at a time, and each is put in within its window.
            self.assertEqual(sorted(order), doughs)
            self.assertEqual(len(times), count)
            for i, time, later in zip(order, times, times[1:] + [h]):
                self.assertLessEqual(windows[i][0], time)
                self.assertLessEqual(time, windows[i][1])
                self.assertLessEqual(time + p, later)
            for others in itertools.combinations(range(len(windows)), count + 1):
                self.assertIsNone(freely_finished(others, windows, h, p), (h, p, windows))

    def keeps_to_deadlines(self, order, times, windows):
        """Whether no dough is put in ahead of one whose window has begun and ends earlier."""
        for place, (i, time) in enumerate(zip(order, times)):
            for other in order[place + 1:]:
                if windows[other][0] <= time and windows[other][1] < windows[i][1]:
                    return False
        return True

    def test_earliest_deadlines(self):
        baked = 0
        for h, p, windows in self.instances():
            count = last_answer(*kitchen(h, p, *windows), most_doughs())[0]
            doughs = last_answer(*kitchen(h, p, *windows), most_doughs())[1:1 + count]
            orders = list(itertools.permutations(doughs))
            found = ask_each(kitchen(h, p, *windows), [start_times(order) for order in orders])
            possible = [(order, times[1:]) for order, times in zip(orders, found) if times != NO_ORDER]
            kept = [row for row in possible if self.keeps_to_deadlines(*row, windows)]
            self.assertGreater(len(kept), 0, (h, p, windows))
            baked += count
        # Else it would say little.
        self.assertGreater(baked, 200)
