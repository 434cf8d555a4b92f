"""The keys of bodies, the ranges of their values, and how a body follows an input."""

BODIES = 8
KEYS_OF_A_BODY = 4
FIRST_FOLLOWED_KEY = 1000
FURTHEST = 1000
FASTEST = 20
STRONGEST = 3


def is_body_number(number):
    return 0 <= number < BODIES


def is_body_key(key):
    return 0 <= key < BODIES * KEYS_OF_A_BODY


def body_of_key(key):
    return key // KEYS_OF_A_BODY


def is_place(value):
    return 0 <= value <= FURTHEST


def is_speed(value):
    return -FASTEST <= value <= FASTEST


def is_push(value):
    return -STRONGEST <= value <= STRONGEST


def fits_body_key(key, value):
    if key % KEYS_OF_A_BODY < 2:
        return is_place(value)
    return is_speed(value)


def followed_key(body):
    return FIRST_FOLLOWED_KEY + body


def has_body(world, body):
    return followed_key(body) in world


def put_body(world, body, x, y, vx, vy):
    first = KEYS_OF_A_BODY * body
    world[first] = x
    world[first + 1] = y
    world[first + 2] = vx
    world[first + 3] = vy
    world[followed_key(body)] = 0


def body_values(world, body):
    # x, y, both speeds, how many followed; all are 0 if the body isn't there.
    first = KEYS_OF_A_BODY * body
    keys = [first, first + 1, first + 2, first + 3, followed_key(body)]
    return [world.get(key, 0) for key in keys]


def follow_axis(world, place_key, push):
    speed_key = place_key + 2
    speed = max(-FASTEST, min(FASTEST, world[speed_key] + push))
    place = world[place_key] + speed
    if place < 0:
        place = -place
        speed = -speed
    elif place > FURTHEST:
        place = 2 * FURTHEST - place
        speed = -speed
    world[place_key] = place
    world[speed_key] = speed


def follow(world, body, ax, ay):
    first = KEYS_OF_A_BODY * body
    follow_axis(world, first, ax)
    follow_axis(world, first + 1, ay)
    world[followed_key(body)] += 1
