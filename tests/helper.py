"""What the tests share: the calls by their names, what is answered of them, and the document's words.

What ends in _by_words goes by the document alone and tries everything; it draws nothing from the package.
There a window is a pair of its first and last time, or None; what is impossible is None too.
"""

import functools
import itertools

from bakehours.oven import answers

LOWEST = -2147483648
HIGHEST = 2147483647

NO_INSTANCE = [-11]
MISSING = [-2]
OUT_OF_RANGE = [-22]
TOO_MANY_DOUGHS = [-28]
NOT_COOLED = [-6]
NO_WINDOW = [-33]
NO_ORDER = [-33]


def create(h, p):
    return [0, h, p]


def set_temperature(t, temperature):
    return [1, t, temperature]


def set_temperatures(start, to, temperature):
    return [2, start, to, temperature]


def add_dough(mixed_at, minimum, maximum):
    return [3, mixed_at, minimum, maximum]


def remove_dough(i):
    return [4, i]


def cool(i, start, to):
    return [5, i, start, to]


def stop_cooling(i):
    return [6, i]


def set_baking_time(p):
    return [7, p]


def window(i):
    return [8, i]


def risen(i, t):
    return [9, i, t]


def start_times(order):
    return [10, len(order), *order]


def plan():
    return [11]


def most_doughs():
    return [12]


def earliest_deadline():
    return [13]


def can_bake(set_number):
    return [14, set_number]


def plan_if_cooled(i, start, to):
    return [15, i, start, to]


def describe():
    return [16]


def kitchen(h, p, *windows):
    """The calls for an instance with a dough for each of these windows; None for a dough without one.

    Each hour is one degree above 4, so that a dough mixed at time 0 has risen by t at time t.
    """
    calls = [create(h, p), set_temperatures(0, h, 5)]
    for times in windows:
        calls.append(add_dough(0, 999, 999) if times is None else add_dough(0, *times))
    return calls


def ask(*calls):
    """The answers to these calls, made in this order in one request: a list for each."""
    if not 1 <= len(calls) <= 60:
        raise AssertionError(f"a request of {len(calls)} calls")
    given_back = answers([number for call in calls for number in call])
    found = []
    place = 0
    for call in calls:
        end = place + 1 + given_back[place]
        found.append(given_back[place + 1:end])
        place = end
    if place != len(given_back) or any(type(number) is not int for number in given_back):
        raise AssertionError(f"laid out otherwise: {given_back}")
    return found


def last_answer(*calls):
    """What is answered of the last one of these calls."""
    return ask(*calls)[-1]


def ask_each(calls, queries):
    """What is answered of each query after these calls, in as many requests as it takes."""
    found = []
    at_once = 60 - len(calls)
    for place in range(0, len(queries), at_once):
        found += ask(*calls, *queries[place:place + at_once])[len(calls):]
    return found


def temperatures_after(*calls):
    """The temperature of each hour, of as many as there are."""
    hours = range(37)
    found = ask(*calls, *[set_temperature(t, 0) for t in hours])[len(calls):]
    return [answer[0] for answer in found if answer != MISSING]


def state_after(calls):
    """All that describe tells of the instance, and what it turns out to be if copies of it are changed."""
    calls = list(calls)
    temperatures = temperatures_after(*calls)
    h = len(temperatures)
    count = 0
    while last_answer(*calls, remove_dough(count)) != MISSING:
        count += 1
    state = [last_answer(*calls, describe()), temperatures, last_answer(*calls, set_baking_time(1)), count]
    for i in range(count):
        state.append(last_answer(*calls, window(i)))
        state.append(last_answer(*calls, stop_cooling(i)))
        for t in range(h):
            only_one = [set_temperatures(0, h, 0), set_temperature(t, 40), window(i)]
            state.append(last_answer(*calls, *only_one))
        for temperature in range(5, 41, 5):
            state.append(last_answer(*calls, set_temperatures(0, h, temperature), window(i)))
    return state


def rise_by_words(temperatures, mixed_at, cooled, t):
    """How much a dough has risen by time t."""
    warm = [hour for hour in range(mixed_at, t) if hour not in cooled]
    return sum(temperatures[hour] - 4 for hour in warm if temperatures[hour] > 4)


def window_by_words(temperatures, mixed_at, minimum, maximum, cooled):
    times = [
        t for t in range(mixed_at, len(temperatures) + 1)
        if minimum <= rise_by_words(temperatures, mixed_at, cooled, t) <= maximum
    ]
    return (times[0], times[-1]) if times else None


def times_by_words(order, windows, h, p):
    times = []
    for i in order:
        if windows[i] is None:
            return None
        first, last = windows[i]
        start = max([first] + [time + p for time in times])
        if last < start or h < start + p:
            return None
        times.append(start)
    return times


def plan_by_words(doughs, windows, h, p):
    """When the plan for these doughs is finished, its order and its times."""
    plans = []
    for order in itertools.permutations(doughs):
        times = times_by_words(order, windows, h, p)
        if times is not None:
            plans.append((max([time + p for time in times], default=0), list(order), times))
    return min(plans) if plans else None


def all_sets(count):
    """For each set number the doughs of the set."""
    return [[i for i in range(count) if number // 2 ** i % 2 == 1] for number in range(2 ** count)]


def most_doughs_by_words(windows, h, p):
    """The doughs and the order."""
    plans = [(doughs, plan_by_words(doughs, windows, h, p)) for doughs in all_sets(len(windows))]
    most = max(len(doughs) for doughs, found in plans if found is not None)
    doughs, found = [row for row in plans if row[1] is not None and len(row[0]) == most][0]
    return doughs, found[1]


def deadline_order_by_words(windows, p):
    order = []
    present = 0
    remaining = {i for i, times in enumerate(windows) if times is not None}
    while remaining:
        begun = sorted((windows[i][1], i) for i in remaining if windows[i][0] <= present)
        if begun:
            order.append(begun[0][1])
            remaining.remove(begun[0][1])
            present += p
        else:
            present = min(windows[i][0] for i in remaining)
    return order + [i for i, times in enumerate(windows) if times is None]


def freely_finished(doughs, windows, h, p):
    """When the last of these doughs can be finished, if each is baked at whatever time of its window."""
    @functools.lru_cache(maxsize=None)
    def finished(present, remaining):
        if not remaining:
            return present
        found = []
        if present < h:
            # The oven may wait, too.
            found.append(finished(present + 1, remaining))
        for i in remaining:
            if windows[i] is not None and windows[i][0] <= present <= windows[i][1] and present + p <= h:
                found.append(finished(present + p, remaining - {i}))
        return min([time for time in found if time is not None], default=None)
    return finished(0, frozenset(doughs))


class Numbers:
    """A row of numbers that is always the same, for instances of many kinds."""

    def __init__(self, first):
        self.state = first

    def below(self, bound):
        self.state = (self.state * 1103515245 + 12345) % 2147483648
        return (self.state >> 12) % bound

    def one_of(self, values):
        return values[self.below(len(values))]
