"""The interface of the program: a request goes in, the answers to its calls come out."""

from bakehours.layout import ADD_DOUGH, CAN_BAKE, COOL, CREATE, EARLIEST_DEADLINE, MOST_DOUGHS, PLAN
from bakehours.layout import PLAN_IF_COOLED, REMOVE_DOUGH, RISEN, SET_TEMPERATURE, SET_TEMPERATURES
from bakehours.layout import START_TIMES, STOP_COOLING, WINDOW, single_calls
from bakehours.limits import NO_INSTANCE, OUT_OF_RANGE, is_baking_time, is_number_of_hours
from bakehours.schedule import Schedule


class Request:
    """The one instance of a request, if there is one yet."""

    def __init__(self):
        self.schedule = None

    def create(self, h, p):
        """Puts a new instance in the place of the one there may be; answers 0."""
        if not is_number_of_hours(h):
            return [OUT_OF_RANGE]
        if not is_baking_time(p):
            return [OUT_OF_RANGE]
        self.schedule = Schedule(h, p)
        return [0]

    def answer(self, call):
        """The numbers that are answered of one call."""
        if call[0] == CREATE:
            return self.create(call[1], call[2])
        if self.schedule is None:
            return [NO_INSTANCE]
        # From window on, the calls only ask.
        if call[0] < WINDOW:
            return answer_of_change(self.schedule, call)
        return answer_of_query(self.schedule, call)


def answer_of_change(schedule, call):
    """The numbers that are answered of one call that may change an instance."""
    number = call[0]
    if number == SET_TEMPERATURE:
        return schedule.set_temperature(call[1], call[2])
    if number == SET_TEMPERATURES:
        return schedule.set_temperatures(call[1], call[2], call[3])
    if number == ADD_DOUGH:
        return schedule.add_dough(call[1], call[2], call[3])
    if number == REMOVE_DOUGH:
        return schedule.remove_dough(call[1])
    if number == COOL:
        return schedule.cool(call[1], call[2], call[3])
    if number == STOP_COOLING:
        return schedule.stop_cooling(call[1])
    # SET_BAKING_TIME is the only one left.
    return schedule.set_baking_time(call[1])


def answer_of_query(schedule, call):
    """The numbers that are answered of one call that only asks, from window on."""
    number = call[0]
    if number == WINDOW:
        return schedule.window(call[1])
    if number == RISEN:
        return schedule.risen(call[1], call[2])
    if number == START_TIMES:
        # Ahead of the order stands how long it is.
        return schedule.start_times(call[2:])
    if number == PLAN:
        return schedule.plan()
    if number == MOST_DOUGHS:
        return schedule.most_doughs()
    if number == EARLIEST_DEADLINE:
        return schedule.earliest_deadline()
    if number == CAN_BAKE:
        return schedule.can_bake(call[1])
    if number == PLAN_IF_COOLED:
        return schedule.plan_if_cooled(call[1], call[2], call[3])
    # DESCRIBE is the only one left.
    return schedule.describe()


def answers(calls):
    """For each call, in order: how many numbers are answered, then these numbers."""
    request = Request()
    given_back = []
    for call in single_calls(calls):
        numbers = request.answer(call)
        given_back.append(len(numbers))
        given_back.extend(numbers)
    return given_back
