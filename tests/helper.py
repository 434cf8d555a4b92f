"""Calls by their names, a line run and its answers told apart."""

import unittest

from mirrornet.mirrors import answer_call, answers
from mirrornet.net import Net

BIG = 3000000000


def body(b, x=500, y=500, vx=0, vy=0):
    return (0, b, x, y, vx, vy)


def client(c, b):
    return (1, c, b)


def put(k, z):
    return (2, k, z)


def unset(k):
    return (3, k)


def tick():
    return (4,)


def send(c):
    return (5, c)


def up(c):
    return (6, c)


def deliver(p):
    return (7, p)


def push(c, ax=0, ay=0):
    return (8, c, ax, ay)


def world():
    return (9,)


def base(c):
    return (10, c)


def guess(c):
    return (11, c)


def render(c, k, n, d=1):
    return (12, c, k, n, d)


def shot(c, dx, dy, t1, t2, n, d=1):
    return (13, c, dx, dy, t1, t2, n, d)


def exchange(c, a, s, b):
    return (14, c, a, s, b)


def offset(c, t):
    return (15, c, t)


def drift(d):
    return (16, d)


def packet(p):
    return (17, p)


def counts():
    return (18,)


def ring(c):
    return (19, c)


def split(told):
    """The answers of a line, one list for each call."""
    parts = []
    at = 0
    while at < len(told):
        parts.append(told[at + 1:at + 1 + told[at]])
        if len(parts[-1]) != told[at] or told[at] < 1:
            raise AssertionError("an answer's count is wrong")
        at += 1 + told[at]
    return parts


def run(*calls):
    """Each call's answer, through the interface."""
    return split(answers([number for call in calls for number in call]))


def last(*calls):
    return run(*calls)[-1]


def play(*calls):
    """The net behind these calls, to look at what no call tells."""
    net = Net()
    for call in calls:
        answer_call(net, call[0], list(call[1:]))
    return net


def shown(answer):
    """The answer of world or base as a dict; its keys must rise."""
    keys = answer[3::2]
    if answer[0] != 0 or answer[2] != len(keys) or keys != sorted(set(keys)):
        raise AssertionError("not a world")
    return dict(zip(keys, answer[4::2]))


def state(thing):
    """All that an object keeps, as plain values that can be compared."""
    if isinstance(thing, dict):
        return [(key, state(value)) for key, value in thing.items()]
    if isinstance(thing, (list, tuple)):
        return [state(value) for value in thing]
    if hasattr(thing, "__dict__"):
        return (thing.__class__.__name__, state(vars(thing)))
    return thing


def probe():
    """Calls whose answers tell apart what came ahead of them."""
    calls = [world(), counts()]
    for c in range(10):
        calls += [base(c), guess(c), ring(c), offset(c, 1000), render(c, 0, 3, 2), render(c, 2000, 5)]
        calls += [shot(c, 1, 0, 1, 2, 2)]
    calls += [packet(p) for p in range(5)] + [drift(7)]
    for c in range(10):
        calls += [push(c, 1, -1), up(c), send(c)]
    calls += [deliver(p) for p in range(25)]
    calls += [tick()]
    calls += [send(c) for c in range(10)]
    calls += [unset(2000), put(2001, 5), body(7, 1, 2, 3, 4), client(9, 7), tick(), world()]
    calls += [exchange(c, 1000, 1000, 2000) for c in range(10)] + [counts()]
    return calls


class Case(unittest.TestCase):
    maxDiff = None

    def refused(self, before, call, number):
        """The call is refused by this number, and all goes on as if it hadn't been."""
        told = run(*before, call, *probe())
        self.assertEqual(told[len(before)], [number], (call, number))
        self.assertEqual(told[len(before) + 1:], run(*before, *probe())[len(before):], call)
        self.assertEqual(state(play(*before, call)), state(play(*before)), call)

    def taken(self, before, call, answer):
        self.assertEqual(last(*before, call), answer, call)
