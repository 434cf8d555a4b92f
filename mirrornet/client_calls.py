"""The calls on what a client has and is shown, and how its shots are judged: base, guess, render, shot, ring."""

from mirrornet.between import MOST_TICKS_BEYOND, Between, is_time, shown_value
from mirrornet.bodies import KEYS_OF_A_BODY, body_values
from mirrornet.net import GREATEST_TICK
from mirrornet.ratios import least_terms
from mirrornet.refusals import NO_SUCH, NOT_KEPT, NOTHING_SHOWN, OUT_OF_RANGE
from mirrornet.shots import Shot, is_direction
from mirrornet.worlds import listed

GREATEST_KEY = 4095


def tell_base(net, number):
    if number not in net.clients:
        return [NO_SUCH]
    client = net.clients[number]
    return [0, client.last_tick] + listed(client.last_world())


def tell_guess(net, number):
    if number not in net.clients:
        return [NO_SUCH]
    client = net.clients[number]
    return [0, len(client.inputs)] + body_values(client.guess(), client.body)


def render(net, number, key, n, d):
    if number not in net.clients:
        return [NO_SUCH]
    if not (0 <= key <= GREATEST_KEY and is_time(n, d)):
        return [OUT_OF_RANGE]
    value = shown_value(net.clients[number].worlds, key, n, d)
    if value is None:
        return [NOTHING_SHOWN]
    return [0] + least_terms(value[0], value[1])


def are_ticks_around(t1, t2, n, d):
    return 1 <= t1 < t2 <= GREATEST_TICK and t1 * d <= n <= (t2 + MOST_TICKS_BEYOND) * d


def judge_shot(net, number, dx, dy, t1, t2, n, d):
    if number not in net.clients:
        return [NO_SUCH]
    if not (is_direction(dx, dy) and is_time(n, d) and are_ticks_around(t1, t2, n, d)):
        return [OUT_OF_RANGE]
    if t1 not in net.kept or t2 not in net.kept:
        return [NOT_KEPT]
    own = net.clients[number].body
    first = KEYS_OF_A_BODY * own
    shot = Shot(net.world[first], net.world[first + 1], dx, dy)
    between = Between(net.kept, t1, t2, n, d)
    met = shot.meets(between, own)
    told = [0, len(met)]
    for way, body in met:
        told.append(body)
        told.extend(least_terms(way, between.lower_number * shot.squared_step))
    return told


def tell_ring(net, number):
    if number not in net.clients:
        return [NO_SUCH]
    return [0] + sorted(net.clients[number].worlds, reverse=True)
