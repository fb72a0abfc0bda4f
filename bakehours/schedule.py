"""The instance: its hours, its oven and its doughs, and the operations on them.

Each operation gives back the list of the numbers that it answers.
An error is its code alone, and is found before anything is changed.
"""

from bakehours.dough import Dough
from bakehours.limits import MISSING, MOST_DOUGHS, NO_WINDOW, NOT_COOLED, OUT_OF_RANGE, TOO_MANY_DOUGHS
from bakehours.limits import are_amounts, is_baking_time, is_temperature

FIRST_TEMPERATURE = 24


class Schedule:
    """An instance as it is after a create that has succeeded."""

    def __init__(self, hours, baking_time):
        self.hours = hours
        self.baking_time = baking_time
        self.temperatures = [FIRST_TEMPERATURE] * hours
        self.doughs = []

    def has_hour(self, t):
        """Whether hour t exists."""
        return 0 <= t < self.hours

    def has_dough(self, i):
        """Whether dough i exists."""
        return 0 <= i < len(self.doughs)

    def set_temperature(self, t, temperature):
        """Changes the temperature of hour t; answers the previous one."""
        if not self.has_hour(t):
            return [MISSING]
        if not is_temperature(temperature):
            return [OUT_OF_RANGE]
        old_temperature = self.temperatures[t]
        self.temperatures[t] = temperature
        return [old_temperature]

    def set_temperatures(self, start, to, temperature):
        """Sets the temperature of the hours start to to - 1; answers how many these are."""
        if not 0 <= start <= to <= self.hours:
            return [OUT_OF_RANGE]
        if not is_temperature(temperature):
            return [OUT_OF_RANGE]
        for hour in range(start, to):
            self.temperatures[hour] = temperature
        return [to - start]

    def add_dough(self, mixed_at, minimum, maximum):
        """Adds a dough; answers its number."""
        if not self.has_hour(mixed_at):
            return [OUT_OF_RANGE]
        if not are_amounts(minimum, maximum):
            return [OUT_OF_RANGE]
        if len(self.doughs) == MOST_DOUGHS:
            return [TOO_MANY_DOUGHS]
        self.doughs.append(Dough(mixed_at, minimum, maximum, self.hours))
        return [len(self.doughs) - 1]

    def remove_dough(self, i):
        """Removes dough i; answers how many doughs remain."""
        if not self.has_dough(i):
            return [MISSING]
        self.doughs.pop(i)
        return [len(self.doughs)]

    def cool(self, i, start, to):
        """Cools dough i in the hours start to to - 1; answers 1 and its window then, or 0."""
        if not self.has_dough(i):
            return [MISSING]
        if not 0 <= start < to <= self.hours:
            return [OUT_OF_RANGE]
        dough = self.doughs[i]
        dough.cool_hours(start, to)
        times = dough.times_of_window(self.temperatures)
        if len(times) == 0:
            return [0]
        return [1] + times

    def stop_cooling(self, i):
        """Cools dough i in no hour any more; answers 0."""
        if not self.has_dough(i):
            return [MISSING]
        dough = self.doughs[i]
        if not dough.is_ever_cooled():
            return [NOT_COOLED]
        dough.cool_never()
        return [0]

    def set_baking_time(self, p):
        """Changes the hours of baking; answers the previous number."""
        if not is_baking_time(p):
            return [OUT_OF_RANGE]
        old_baking_time = self.baking_time
        self.baking_time = p
        return [old_baking_time]

    def window(self, i):
        """Answers the first and the last time of the window of dough i."""
        if not self.has_dough(i):
            return [MISSING]
        times = self.doughs[i].times_of_window(self.temperatures)
        if len(times) == 0:
            return [NO_WINDOW]
        return times
