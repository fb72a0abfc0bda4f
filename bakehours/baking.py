"""The one oven: which orders of doughs are possible, and which one of them is the best.

None stands in the place of a time, of times or of an order where nothing is possible.
"""


class Baking:
    """Doughs with these windows; each one bakes for so long, and all are finished within the hours."""

    def __init__(self, windows, hours, baking_time):
        # For each dough the first and the last time of its window; an empty list if it has none.
        self.windows = windows
        self.hours = hours
        self.baking_time = baking_time

    def all_doughs(self):
        """The numbers of all doughs."""
        return list(range(len(self.windows)))

    def doughs_with_a_window(self):
        """The numbers of the doughs that have a window."""
        return [i for i in self.all_doughs() if len(self.windows[i]) > 0]

    def doughs_without_a_window(self):
        """The numbers of the doughs that have no window."""
        return [i for i in self.all_doughs() if len(self.windows[i]) == 0]

    def begin_of_window(self, i):
        """The first time of the window of dough i, which has one."""
        return self.windows[i][0]

    def end_of_window(self, i):
        """The last time of the window of dough i, which has one."""
        return self.windows[i][1]

    def earliest_start(self, i, free_from):
        """When dough i is put into the oven if this is free from that time on."""
        if len(self.windows[i]) == 0:
            return None
        start = max(self.begin_of_window(i), free_from)
        if start > self.end_of_window(i):
            return None
        if start + self.baking_time > self.hours:
            return None
        return start

    def times_of_order(self, order):
        """When each dough of an order is put into the oven."""
        times = []
        free_from = 0
        for i in order:
            start = self.earliest_start(i, free_from)
            if start is None:
                return None
            times.append(start)
            free_from = start + self.baking_time
        return times

    def finish_of_times(self, times):
        """When the last one of the doughs that are put in at these times is finished."""
        if len(times) == 0:
            return 0
        return times[-1] + self.baking_time

    def order_of_plan(self, doughs):
        """The order of the plan for these doughs, whose numbers increase."""
        search = PlanSearch(self)
        search.try_orders([], 0, doughs)
        return search.best_order

    def largest_set_with_a_plan(self):
        """The doughs of the largest set that has a plan; of several, of the smallest set number."""
        found = []
        for set_number in range(number_of_sets(len(self.windows))):
            doughs = doughs_of_set(set_number)
            # A set of as many doughs as an earlier one has the greater number.
            if len(doughs) > len(found) and self.order_of_plan(doughs) is not None:
                found = doughs
        return found

    def order_by_deadline(self):
        """The order of all doughs by the earliest deadline, be it possible or not."""
        order = []
        present = 0
        remaining = self.doughs_with_a_window()
        while len(remaining) > 0:
            begun = [i for i in remaining if self.begin_of_window(i) <= present]
            if len(begun) == 0:
                present = min([self.begin_of_window(i) for i in remaining])
            else:
                chosen = min(begun, key=lambda i: (self.end_of_window(i), i))
                order.append(chosen)
                remaining = [i for i in remaining if i != chosen]
                present += self.baking_time
        return order + self.doughs_without_a_window()


class PlanSearch:
    """The search for a plan: goes through orders, the lexicographically first ones first."""

    def __init__(self, baking):
        self.baking = baking
        self.best_order = None
        # Only an order that is finished ahead of this time is better than what is found.
        self.bound = baking.hours + 1

    def try_orders(self, order, free_from, remaining):
        """Goes on from a possible order, after which the oven is free from that time on."""
        baking_time = self.baking.baking_time
        # What can't be better is left out: of doughs with wide windows nearly every order.
        if free_from + len(remaining) * baking_time >= self.bound:
            return
        if len(remaining) == 0:
            self.best_order = order
            self.bound = free_from
            return
        for i in remaining:
            start = self.baking.earliest_start(i, free_from)
            if start is not None:
                others = [j for j in remaining if j != i]
                self.try_orders(order + [i], start + baking_time, others)


def number_of_sets(count):
    """How many sets of so many doughs there are; the set numbers lie below it."""
    return 1 << count


def doughs_of_set(set_number):
    """The doughs of a set, in increasing order."""
    doughs = []
    i = 0
    while set_number >> i > 0:
        if (set_number >> i) & 1 == 1:
            doughs.append(i)
        i += 1
    return doughs
