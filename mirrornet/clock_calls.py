"""The calls on clocks: exchange, offset, drift."""

from mirrornet.clocks import GREATEST_TIME, bounds_of_exchange, is_clock_time, is_drift
from mirrornet.refusals import NO_SUCH, NOTHING_KNOWN, OUT_OF_RANGE, TAKEN


def exchange(net, number, a, s, b):
    if number not in net.clients:
        return [NO_SUCH]
    client = net.clients[number]
    if not (is_clock_time(a) and is_clock_time(s) and is_clock_time(b)):
        return [OUT_OF_RANGE]
    if b < a or client.knows_later_than(b):
        return [OUT_OF_RANGE]
    agrees = client.learn_bounds(bounds_of_exchange(a, s, b, net.drift), net.drift)
    return [0, 1 if agrees else 0] + client.bounds.told()


def tell_offset(net, number, time):
    if number not in net.clients:
        return [NO_SUCH]
    client = net.clients[number]
    if client.bounds is None:
        return [NOTHING_KNOWN]
    if not client.bounds.time <= time <= GREATEST_TIME:
        return [OUT_OF_RANGE]
    return [0] + client.bounds.later(time, net.drift).told()


def set_drift(net, drift):
    if not is_drift(drift):
        return [OUT_OF_RANGE]
    if net.some_clock_is_known():
        return [TAKEN]
    net.drift = drift
    return [0]
