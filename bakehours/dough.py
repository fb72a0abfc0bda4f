"""One dough: how much it has risen, and when it can be put into the oven."""

# An hour as cold as this, or colder, makes no dough rise.
RESTING_TEMPERATURE = 4


class Dough:
    """A dough that is never cooled at first, in a schedule of so many hours."""

    def __init__(self, mixed_at, minimum, maximum, hours):
        self.mixed_at = mixed_at
        self.minimum = minimum
        self.maximum = maximum
        self.cooled = [False] * hours

    def cool_hours(self, start, to):
        """Cools it from hour start to hour to - 1, besides where it is cooled already."""
        for hour in range(start, to):
            self.cooled[hour] = True

    def cool_never(self):
        """Takes all cooling back."""
        self.cooled = [False] * len(self.cooled)

    def is_ever_cooled(self):
        """Whether it is cooled in some hour, be it before its mixing."""
        return True in self.cooled

    def number_of_cooled_hours(self):
        """In how many hours it is cooled, those before its mixing among them."""
        return self.cooled.count(True)

    def another_one(self):
        """A dough like this one, which stays as it is whatever is done with this one."""
        other = Dough(self.mixed_at, self.minimum, self.maximum, len(self.cooled))
        other.cooled = list(self.cooled)
        return other

    def risen_by(self, t, temperatures):
        """How much it has risen by time t."""
        amount = 0
        for hour in range(self.mixed_at, t):
            if not self.cooled[hour]:
                amount += max(0, temperatures[hour] - RESTING_TEMPERATURE)
        return amount

    def can_be_put_in(self, t, temperatures):
        """Whether it can be put into the oven at time t, from its mixing on."""
        return self.minimum <= self.risen_by(t, temperatures) <= self.maximum

    def times_of_window(self, temperatures):
        """The first and the last time of its window; an empty list if it has none."""
        # Time h, the end of the last hour, counts too.
        last = len(temperatures)
        times = [t for t in range(self.mixed_at, last + 1) if self.can_be_put_in(t, temperatures)]
        if len(times) == 0:
            return []
        return [times[0], times[-1]]
