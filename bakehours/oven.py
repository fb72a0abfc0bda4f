"""The interface of the program: a request goes in, the answers to its calls come out."""

from bakehours.layout import ADD_DOUGH, COOL, CREATE, REMOVE_DOUGH, SET_BAKING_TIME, SET_TEMPERATURE
from bakehours.layout import SET_TEMPERATURES, STOP_COOLING, WINDOW, single_calls
from bakehours.limits import NO_INSTANCE, OUT_OF_RANGE, is_baking_time, is_number_of_hours
from bakehours.schedule import Schedule


class CallNotAnswered(Exception):
    """A call that this version of the program has no answer for."""


class Request:
    """The one instance of a request, if there is one yet."""

    def __init__(self):
        self.schedule = None

    def create(self, h, p):
        """Puts a new instance in the place of the one there may be; answers 0."""
        if not is_number_of_hours(h):
            return [OUT_OF_RANGE]
        if not is_baking_time(p):
            return [OUT_OF_RANGE]
        self.schedule = Schedule(h, p)
        return [0]

    def answer(self, call):
        """The numbers that are answered of one call."""
        if call[0] == CREATE:
            return self.create(call[1], call[2])
        if self.schedule is None:
            return [NO_INSTANCE]
        return answer_of_schedule(self.schedule, call)


def answer_of_schedule(schedule, call):
    """The numbers that are answered of one call on an instance."""
    number = call[0]
    if number == SET_TEMPERATURE:
        return schedule.set_temperature(call[1], call[2])
    if number == SET_TEMPERATURES:
        return schedule.set_temperatures(call[1], call[2], call[3])
    if number == ADD_DOUGH:
        return schedule.add_dough(call[1], call[2], call[3])
    if number == REMOVE_DOUGH:
        return schedule.remove_dough(call[1])
    if number == COOL:
        return schedule.cool(call[1], call[2], call[3])
    if number == STOP_COOLING:
        return schedule.stop_cooling(call[1])
    if number == SET_BAKING_TIME:
        return schedule.set_baking_time(call[1])
    if number == WINDOW:
        return schedule.window(call[1])
    raise CallNotAnswered(f"no answer to call {number} yet")


def answers(calls):
    """For each call, in order: how many numbers are answered, then these numbers."""
    request = Request()
    given_back = []
    for call in single_calls(calls):
        numbers = request.answer(call)
        given_back.append(len(numbers))
        given_back.extend(numbers)
    return given_back
