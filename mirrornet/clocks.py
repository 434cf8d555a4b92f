"""What is known of the difference between the server's clock and a client's."""

from mirrornet.ratios import least_terms

GREATEST_TIME = 1000000000
GREATEST_DRIFT = 500
# A drift is so many thousandths, so bounds kept in thousandths are whole numbers.
PARTS = 1000


def is_clock_time(time):
    return 0 <= time <= GREATEST_TIME


def is_drift(drift):
    return 0 <= drift <= GREATEST_DRIFT


class Bounds:
    def __init__(self, time, lo, hi):
        self.time = time
        self.lo = lo
        self.hi = hi

    def later(self, time, drift):
        gained = (time - self.time) * drift
        return Bounds(time, self.lo - gained, self.hi + gained)

    def told(self):
        return least_terms(self.lo, PARTS) + least_terms(self.hi, PARTS)


def bounds_of_exchange(a, s, b, drift):
    return Bounds(b, (s - b) * PARTS, (s - a) * PARTS + (b - a) * drift)


def both_together(old, new):
    # None if they can't both be true.
    lo = max(old.lo, new.lo)
    hi = min(old.hi, new.hi)
    if lo > hi:
        return None
    return Bounds(new.time, lo, hi)
