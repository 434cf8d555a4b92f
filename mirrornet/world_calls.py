"""The calls on the server's side: body, client, set, unset, tick, world, counts."""

from mirrornet.bodies import (
    body_of_key, fits_body_key, has_body, is_body_key, is_body_number, is_place, is_speed, put_body,
)
from mirrornet.net import GREATEST_TICK
from mirrornet.refusals import FULL, LAST_TICK, NO_SUCH, OUT_OF_RANGE, TAKEN
from mirrornet.worlds import listed

GREATEST_CLIENT = 9
FIRST_FREE_KEY = 2000
LAST_FREE_KEY = 2063
GREATEST_FREE_VALUE = 1000000


def is_free_key(key):
    return FIRST_FREE_KEY <= key <= LAST_FREE_KEY


def make_body(net, body, x, y, vx, vy):
    placed = is_place(x) and is_place(y)
    moving = is_speed(vx) and is_speed(vy)
    if not (is_body_number(body) and placed and moving):
        return [OUT_OF_RANGE]
    if has_body(net.world, body):
        return [TAKEN]
    put_body(net.world, body, x, y, vx, vy)
    return [0]


def make_client(net, number, body):
    if not (0 <= number <= GREATEST_CLIENT and is_body_number(body)):
        return [OUT_OF_RANGE]
    if number in net.clients or net.body_is_taken(body):
        return [TAKEN]
    if not has_body(net.world, body):
        return [NO_SUCH]
    if net.clients_full():
        return [FULL]
    net.add_client(number, body)
    return [0]


def set_key(net, key, value):
    if is_body_key(key):
        if not has_body(net.world, body_of_key(key)):
            return [NO_SUCH]
        fits = fits_body_key(key, value)
    else:
        fits = is_free_key(key) and -GREATEST_FREE_VALUE <= value <= GREATEST_FREE_VALUE
    if not fits:
        return [OUT_OF_RANGE]
    net.world[key] = value
    return [0]


def unset_key(net, key):
    if not is_free_key(key):
        return [OUT_OF_RANGE]
    if key not in net.world:
        return [NO_SUCH]
    net.world.pop(key)
    return [0]


def run_tick(net):
    if net.tick >= GREATEST_TICK:
        return [LAST_TICK]
    net.advance()
    told = [0, net.tick]
    for number, peer in net.peers.items():
        told.extend([number, net.followed_by(number), len(peer.waiting)])
    return told


def tell_world(net):
    return [0, net.tick] + listed(net.world)


def tell_counts(net):
    told = [0, net.tick, len(net.world), len(net.packets), len(net.kept)]
    for number, peer in net.peers.items():
        told.extend([number, peer.body, peer.known_tick, len(peer.sent)])
    return told
