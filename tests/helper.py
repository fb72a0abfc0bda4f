"""What the tests share: the calls by their names, and what is answered of them."""

from bakehours.oven import answers

LOWEST = -2147483648
HIGHEST = 2147483647

NO_INSTANCE = [-11]
MISSING = [-2]
OUT_OF_RANGE = [-22]
TOO_MANY_DOUGHS = [-28]
NOT_COOLED = [-6]
NO_WINDOW = [-33]


def create(h, p):
    return [0, h, p]


def set_temperature(t, temperature):
    return [1, t, temperature]


def set_temperatures(start, to, temperature):
    return [2, start, to, temperature]


def add_dough(mixed_at, minimum, maximum):
    return [3, mixed_at, minimum, maximum]


def remove_dough(i):
    return [4, i]


def cool(i, start, to):
    return [5, i, start, to]


def stop_cooling(i):
    return [6, i]


def set_baking_time(p):
    return [7, p]


def window(i):
    return [8, i]


def ask(*calls):
    """The answers to these calls, made in this order in one request: a list for each."""
    if not 1 <= len(calls) <= 60:
        raise AssertionError(f"a request of {len(calls)} calls")
    given_back = answers([number for call in calls for number in call])
    found = []
    place = 0
    for call in calls:
        end = place + 1 + given_back[place]
        found.append(given_back[place + 1:end])
        place = end
    if place != len(given_back) or any(type(number) is not int for number in given_back):
        raise AssertionError(f"laid out otherwise: {given_back}")
    return found


def last_answer(*calls):
    """What is answered of the last one of these calls."""
    return ask(*calls)[-1]


def temperatures_after(*calls):
    """The temperature of each hour, of as many as there are."""
    hours = range(37)
    found = ask(*calls, *[set_temperature(t, 0) for t in hours])[len(calls):]
    return [answer[0] for answer in found if answer != MISSING]


def state_after(calls):
    """All that the operations without a query can tell of the instance, by changing copies of it."""
    calls = list(calls)
    temperatures = temperatures_after(*calls)
    h = len(temperatures)
    count = 0
    while last_answer(*calls, remove_dough(count)) != MISSING:
        count += 1
    state = [temperatures, last_answer(*calls, set_baking_time(1)), count]
    for i in range(count):
        state.append(last_answer(*calls, window(i)))
        state.append(last_answer(*calls, stop_cooling(i)))
        for t in range(h):
            only_one = [set_temperatures(0, h, 0), set_temperature(t, 40), window(i)]
            state.append(last_answer(*calls, *only_one))
        for temperature in range(5, 41, 5):
            state.append(last_answer(*calls, set_temperatures(0, h, temperature), window(i)))
    return state
