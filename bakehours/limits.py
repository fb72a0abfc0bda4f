"""The error codes, and the ranges that are the same for every instance."""

NO_INSTANCE = -11
MISSING = -2
OUT_OF_RANGE = -22
TOO_MANY_DOUGHS = -28
NOT_COOLED = -6
NO_WINDOW = -33

MOST_HOURS = 36
LONGEST_BAKING = 9
HIGHEST_TEMPERATURE = 40
HIGHEST_AMOUNT = 999
DOUGHS_AT_MOST = 6


def is_number_of_hours(h):
    """Whether an instance may have h hours."""
    return 1 <= h <= MOST_HOURS


def is_baking_time(p):
    """Whether a dough may bake for p hours."""
    return 1 <= p <= LONGEST_BAKING


def is_temperature(temperature):
    """Whether an hour may have this temperature."""
    return 0 <= temperature <= HIGHEST_TEMPERATURE


def are_amounts(minimum, maximum):
    """Whether a dough may have this minimum and this maximum."""
    return 1 <= minimum <= maximum <= HIGHEST_AMOUNT
