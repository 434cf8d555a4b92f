"""Values on their way between two worlds, and what is shown of several, at a time n / d."""

GREATEST_UPPER = 1000000
GREATEST_LOWER = 1000
MOST_TICKS_BEYOND = 3


def is_time(n, d):
    return 0 <= n <= GREATEST_UPPER and 1 <= d <= GREATEST_LOWER


class Between:
    def __init__(self, worlds, t1, t2, n, d):
        self.before = worlds[t1]
        self.after = worlds[t2]
        # Every value has the same lower number, so that values can be compared as whole numbers.
        self.lower_number = (t2 - t1) * d
        self.passed = n - t1 * d

    def upper_number(self, key):
        # A value that is in one world alone stands still; None if it is in neither.
        first = self.before.get(key, self.after.get(key))
        if first is None:
            return None
        second = self.after.get(key, first)
        return first * self.lower_number + (second - first) * self.passed


def shown_value(worlds, key, n, d):
    # The upper and the lower number, not in least terms; None if there is none.
    ticks = sorted(worlds)
    greater = [tick for tick in ticks if tick * d > n]
    if len(ticks) < 2 or len(greater) == len(ticks):
        return value_in_first(worlds, ticks, key)
    if greater:
        second = len(ticks) - len(greater)
    else:
        second = len(ticks) - 1
    return value_between(worlds, ticks[second - 1], ticks[second], key, n, d)


def value_in_first(worlds, ticks, key):
    if not ticks or key not in worlds[ticks[0]]:
        return None
    return (worlds[ticks[0]][key], 1)


def value_between(worlds, t1, t2, key, n, d):
    between = Between(worlds, t1, t2, min(n, (t2 + MOST_TICKS_BEYOND) * d), d)
    upper = between.upper_number(key)
    if upper is None:
        return None
    return (upper, between.lower_number)
