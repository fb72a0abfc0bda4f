"""How a request is laid out: its calls one behind another in one list."""

CREATE = 0
SET_TEMPERATURE = 1
SET_TEMPERATURES = 2
ADD_DOUGH = 3
REMOVE_DOUGH = 4
COOL = 5
STOP_COOLING = 6
SET_BAKING_TIME = 7
WINDOW = 8
RISEN = 9
START_TIMES = 10
PLAN = 11
MOST_DOUGHS = 12
EARLIEST_DEADLINE = 13
CAN_BAKE = 14
PLAN_IF_COOLED = 15
DESCRIBE = 16

# For each call, by its number: how many whole numbers it has behind it.
# Of start_times this is the length of the order; the order comes in addition.
WHOLE_NUMBERS = (2, 2, 3, 3, 1, 3, 1, 1, 1, 2, 1, 0, 0, 0, 1, 3, 0)


def end_of_call(calls, place):
    """The place behind the last number of the call that begins at this place."""
    number = calls[place]
    end = place + 1 + WHOLE_NUMBERS[number]
    if number == START_TIMES:
        return end + calls[place + 1]
    return end


def single_calls(calls):
    """The calls of a request, in order: for each a list of its number and what it has behind it."""
    found = []
    place = 0
    while place < len(calls):
        end = end_of_call(calls, place)
        found.append(calls[place:end])
        place = end
    return found
