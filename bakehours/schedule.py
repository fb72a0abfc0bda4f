"""The instance: its hours, its oven and its doughs, and the operations on them.

Each operation gives back the list of the numbers that it answers.
An error is its code alone, and is found before anything is changed.
"""

from bakehours.baking import Baking, doughs_of_set, number_of_sets
from bakehours.dough import Dough
from bakehours.limits import DOUGHS_AT_MOST, MISSING, NO_WINDOW, NOT_COOLED, OUT_OF_RANGE, TOO_MANY_DOUGHS
from bakehours.limits import are_amounts, is_baking_time, is_temperature

FIRST_TEMPERATURE = 24


class Schedule:
    """An instance as it is after a create that has succeeded."""

    def __init__(self, hours, baking_time):
        self.hours = hours
        self.baking_time = baking_time
        self.temperatures = [FIRST_TEMPERATURE] * hours
        self.doughs = []

    def has_hour(self, t):
        """Whether hour t exists."""
        return 0 <= t < self.hours

    def has_dough(self, i):
        """Whether dough i exists."""
        return 0 <= i < len(self.doughs)

    def set_temperature(self, t, temperature):
        """Changes the temperature of hour t; answers the previous one."""
        if not self.has_hour(t):
            return [MISSING]
        if not is_temperature(temperature):
            return [OUT_OF_RANGE]
        old_temperature = self.temperatures[t]
        self.temperatures[t] = temperature
        return [old_temperature]

    def set_temperatures(self, start, to, temperature):
        """Sets the temperature of the hours start to to - 1; answers how many these are."""
        if not 0 <= start <= to <= self.hours:
            return [OUT_OF_RANGE]
        if not is_temperature(temperature):
            return [OUT_OF_RANGE]
        for hour in range(start, to):
            self.temperatures[hour] = temperature
        return [to - start]

    def add_dough(self, mixed_at, minimum, maximum):
        """Adds a dough; answers its number."""
        if not self.has_hour(mixed_at):
            return [OUT_OF_RANGE]
        if not are_amounts(minimum, maximum):
            return [OUT_OF_RANGE]
        if len(self.doughs) == DOUGHS_AT_MOST:
            return [TOO_MANY_DOUGHS]
        self.doughs.append(Dough(mixed_at, minimum, maximum, self.hours))
        return [len(self.doughs) - 1]

    def remove_dough(self, i):
        """Removes dough i; answers how many doughs remain."""
        if not self.has_dough(i):
            return [MISSING]
        self.doughs.pop(i)
        return [len(self.doughs)]

    def refusal_of_cooling(self, i, start, to):
        """The error of cooling dough i in the hours start to to - 1; an empty list if there is none."""
        if not self.has_dough(i):
            return [MISSING]
        if not 0 <= start < to <= self.hours:
            return [OUT_OF_RANGE]
        return []

    def cool(self, i, start, to):
        """Cools dough i in the hours start to to - 1; answers 1 and its window then, or 0."""
        refusal = self.refusal_of_cooling(i, start, to)
        if len(refusal) > 0:
            return refusal
        dough = self.doughs[i]
        dough.cool_hours(start, to)
        times = dough.times_of_window(self.temperatures)
        if len(times) == 0:
            return [0]
        return [1] + times

    def stop_cooling(self, i):
        """Cools dough i in no hour any more; answers 0."""
        if not self.has_dough(i):
            return [MISSING]
        dough = self.doughs[i]
        if not dough.is_ever_cooled():
            return [NOT_COOLED]
        dough.cool_never()
        return [0]

    def set_baking_time(self, p):
        """Changes the hours of baking; answers the previous number."""
        if not is_baking_time(p):
            return [OUT_OF_RANGE]
        old_baking_time = self.baking_time
        self.baking_time = p
        return [old_baking_time]

    def window(self, i):
        """Answers the first and the last time of the window of dough i."""
        if not self.has_dough(i):
            return [MISSING]
        times = self.doughs[i].times_of_window(self.temperatures)
        if len(times) == 0:
            return [NO_WINDOW]
        return times

    def risen(self, i, t):
        """Answers how much dough i has risen by time t."""
        if not self.has_dough(i):
            return [MISSING]
        # Time h, the end of the last hour, counts too.
        if not 0 <= t <= self.hours:
            return [OUT_OF_RANGE]
        return [self.doughs[i].risen_by(t, self.temperatures)]

    def baking_of(self, doughs):
        """The baking of doughs in the one oven of this instance."""
        windows = [dough.times_of_window(self.temperatures) for dough in doughs]
        return Baking(windows, self.hours, self.baking_time)

    def is_order(self, order):
        """Whether these are different numbers of doughs."""
        if len(set(order)) < len(order):
            return False
        return all([self.has_dough(i) for i in order])

    def start_times(self, order):
        """Answers how many doughs the order has, and when each one is put into the oven."""
        if not self.is_order(order):
            return [OUT_OF_RANGE]
        times = self.baking_of(self.doughs).times_of_order(order)
        if times is None:
            return [NO_WINDOW]
        return [len(times)] + times

    def plan(self):
        """Answers when the plan for all doughs is finished, its order and its times."""
        return self.plan_for(self.doughs)

    def plan_for(self, doughs):
        """What is answered of a plan for all of these doughs."""
        baking = self.baking_of(doughs)
        order = baking.order_of_plan(baking.all_doughs())
        if order is None:
            return [NO_WINDOW]
        times = baking.times_of_order(order)
        return [baking.finish_of_times(times)] + order + times

    def most_doughs(self):
        """Answers how many doughs can be baked at the most, which these are, and their plan's order."""
        baking = self.baking_of(self.doughs)
        doughs = baking.largest_set_with_a_plan()
        return [len(doughs)] + doughs + baking.order_of_plan(doughs)

    def earliest_deadline(self):
        """Answers whether the order by the earliest deadline is possible, and this order."""
        baking = self.baking_of(self.doughs)
        order = baking.order_by_deadline()
        if baking.times_of_order(order) is None:
            return [0] + order
        return [1] + order

    def can_bake(self, set_number):
        """Answers whether there is a possible order of the doughs of a set."""
        if not 0 <= set_number < number_of_sets(len(self.doughs)):
            return [OUT_OF_RANGE]
        order = self.baking_of(self.doughs).order_of_plan(doughs_of_set(set_number))
        if order is None:
            return [0]
        return [1]

    def plan_if_cooled(self, i, start, to):
        """Answers what plan would answer if dough i were cooled in the hours start to to - 1."""
        refusal = self.refusal_of_cooling(i, start, to)
        if len(refusal) > 0:
            return refusal
        doughs = list(self.doughs)
        doughs[i] = self.doughs[i].another_one()
        doughs[i].cool_hours(start, to)
        return self.plan_for(doughs)

    def describe(self):
        """Answers all that the instance holds; of the cooled hours of each dough how many they are."""
        numbers = [self.hours] + self.temperatures + [self.baking_time, len(self.doughs)]
        for dough in self.doughs:
            numbers.extend([dough.mixed_at, dough.minimum, dough.maximum, dough.number_of_cooled_hours()])
        return numbers
