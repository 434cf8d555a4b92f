"""Lines at random against a record that forgets nothing, and the promises over a bad net."""

import functools
import random
from fractions import Fraction

from mirrornet.mirrors import answer_call
from mirrornet.net import Net
from tests.helper import (
    BIG, Case, base, body, client, counts, deliver, drift, exchange, guess, offset, packet, push, put, render, ring,
    run, send, shot, shown, split, state, tick, unset, up, world,
)

PLACE, SPEED = range(0, 1001), range(-20, 21)
KEY_RANGES = {4 * b + k: (PLACE, PLACE, SPEED, SPEED)[k] for b in range(8) for k in range(4)}
FREE_KEYS, FREE_VALUES = range(2000, 2064), range(-1000000, 1000001)


class Member:
    def __init__(self, number, own):
        self.number, self.own = number, own
        self.sent, self.came, self.made, self.arrived, self.known = [], [0], [], {}, 0
        self.exchanges = []


class Record:
    """Every world of every tick stays; what is kept, waits or is forgotten is reckoned from it when asked."""

    def __init__(self):
        self.now, self.worlds, self.members, self.packets, self.rate = {}, [{}], [], [], 0
        self.calls = [self.body, self.client, self.put, self.unset, self.tick, self.send, self.up, self.deliver,
                      self.push, self.world, self.base, self.guess, self.render, self.shot, self.exchange, self.offset,
                      self.drift, self.packet, self.counts, self.ring]

    def answer(self, call):
        return self.calls[call[0]](*call[1:])

    def member(self, c):
        return next((member for member in self.members if member.number == c), None)

    def followed(self, member):
        return self.now[1000 + member.own]

    def forgotten(self, member):
        return max(self.worlds[t].get(1000 + member.own, 0) for t in member.came)

    def waits(self, member):
        return [n for n in member.arrived if n > self.followed(member)]

    def last_sent(self, member):
        return sorted(set(member.sent))[-16:]

    def body(self, b, x, y, vx, vy):
        if b not in range(8) or x not in PLACE or y not in PLACE or vx not in SPEED or vy not in SPEED:
            return [-2]
        if 1000 + b in self.now:
            return [-3]
        self.now = {**self.now, **dict(zip(range(4 * b, 4 * b + 4), (x, y, vx, vy))), 1000 + b: 0}
        return [0]

    def client(self, c, b):
        if c not in range(10) or b not in range(8):
            return [-2]
        if self.member(c) or b in [member.own for member in self.members]:
            return [-3]
        if 1000 + b not in self.now:
            return [-1]
        if len(self.members) == 4:
            return [-4]
        self.members.append(Member(c, b))
        return [0]

    def put(self, k, z):
        if k in KEY_RANGES and 1000 + k // 4 not in self.now:
            return [-1]
        if z not in KEY_RANGES.get(k, FREE_VALUES if k in FREE_KEYS else ()):
            return [-2]
        self.now = {**self.now, k: z}
        return [0]

    def unset(self, k):
        if k not in FREE_KEYS:
            return [-2]
        if k not in self.now:
            return [-1]
        self.now = {key: value for key, value in self.now.items() if key != k}
        return [0]

    def tick(self):
        for member in self.members:
            for n in range(self.followed(member) + 1, self.followed(member) + 5):
                if n not in member.arrived:
                    break
                self.now = {**self.now, **stepped(self.now, member.own, *member.arrived[n])}
        self.worlds.append(self.now)
        told = [[m.number, self.followed(m), len(self.waits(m))] for m in self.members]
        return sum(told, [0, len(self.worlds) - 1])

    def send(self, c):
        member = self.member(c)
        if not member:
            return [-1]
        if len(self.worlds) == 1:
            return [-6]
        if len(self.packets) == 200:
            return [-4]
        now = len(self.worlds) - 1
        first = member.known if member.known in self.last_sent(member) else 0
        old, new = self.worlds[first], self.worlds[now]
        member.sent.append(now)
        self.packets.append(("down", member, now, first))
        return [0, len(self.packets) - 1, now, first, len(dict(old.items() ^ new.items()))]

    def up(self, c):
        member = self.member(c)
        if not member:
            return [-1]
        if len(self.packets) == 200:
            return [-4]
        inputs = dict(list(enumerate(member.made, 1))[self.forgotten(member):])
        self.packets.append(("up", member, max(member.came), inputs))
        return [0, len(self.packets) - 1, max(member.came), len(inputs)]

    def deliver(self, p):
        if p not in range(len(self.packets)):
            return [-1]
        way, member, t, rest = self.packets[p]
        if way == "down":
            old = t <= max(member.came)
            member.came += [] if old else [t]
            return [0, int(old)]
        if t in self.last_sent(member):
            member.known = max(member.known, t)
        member.arrived = {**rest, **member.arrived}
        return [0, member.known, len(self.waits(member))]

    def push(self, c, ax, ay):
        member = self.member(c)
        if not member:
            return [-1]
        if abs(ax) > 3 or abs(ay) > 3:
            return [-2]
        if len(member.made) - self.forgotten(member) == 64:
            return [-4]
        member.made.append((ax, ay))
        return [0, len(member.made)]

    def world(self):
        return sum([[k, self.now[k]] for k in sorted(self.now)], [0, len(self.worlds) - 1, len(self.now)])

    def base(self, c):
        member = self.member(c)
        if not member:
            return [-1]
        seen = self.worlds[max(member.came)]
        return sum([[k, seen[k]] for k in sorted(seen)], [0, max(member.came), len(seen)])

    def guess(self, c):
        member = self.member(c)
        if not member:
            return [-1]
        seen, own, inputs = self.worlds[max(member.came)], member.own, member.made[self.forgotten(member):]
        if 1000 + own in seen:
            for ax, ay in inputs:
                seen = {**seen, **stepped(seen, own, ax, ay)}
        keys = (4 * own, 4 * own + 1, 4 * own + 2, 4 * own + 3, 1000 + own)
        return [0, len(inputs)] + [seen[k] if k in seen else 0 for k in keys]

    def render(self, c, k, n, d):
        member = self.member(c)
        if not member:
            return [-1]
        if k not in range(4096) or n not in range(1000001) or d not in range(1, 1001):
            return [-2]
        value = self.shown(self.ticks_kept(member), k, Fraction(n, d))
        return [-7] if value is None else [0, *Fraction(value).as_integer_ratio()]

    def ticks_kept(self, member):
        return member.came[1:][-16:]

    def shown(self, ticks, k, t):
        if not ticks or t < ticks[0] or len(ticks) == 1:
            return self.worlds[ticks[0]].get(k) if ticks else None
        t1, t2 = max((pair for pair in zip(ticks, ticks[1:]) if pair[0] <= t), key=lambda pair: pair[0])
        return self.between(t1, t2, k, min(t, t2 + 3))

    def between(self, t1, t2, k, t):
        a, b = self.worlds[t1].get(k), self.worlds[t2].get(k)
        if a is None or b is None:
            return b if a is None else a
        return Fraction(a * (t2 - t) + b * (t - t1)) / (t2 - t1)

    def shot(self, c, dx, dy, t1, t2, n, d):
        member = self.member(c)
        if not member:
            return [-1]
        if max(abs(dx), abs(dy)) not in range(1, 1001) or t1 not in range(1, 10001) or t2 not in range(t1 + 1, 10001):
            return [-2]
        if n not in range(1000001) or d not in range(1, 1001) or not t1 <= Fraction(n, d) <= t2 + 3:
            return [-2]
        if not {t1, t2} <= set(range(1, len(self.worlds))[-64:]):
            return [-8]
        x, y = self.now[4 * member.own], self.now[4 * member.own + 1]
        found = []
        for b in set(range(8)) - {member.own}:
            at = [self.between(t1, t2, 4 * b + axis, Fraction(n, d)) for axis in range(2)]
            if at[0] is not None:
                f = max(Fraction((at[0] - x) * dx + (at[1] - y) * dy) / (dx * dx + dy * dy), Fraction(0))
                if (x + f * dx - at[0]) ** 2 + (y + f * dy - at[1]) ** 2 <= 25:
                    found.append((f, b))
        return sum([[b, *f.as_integer_ratio()] for f, b in sorted(found)], [0, len(found)])

    def bounds(self, exchanges, t):
        """All exchanges that aren't forgotten, each by itself taken later."""
        rate = Fraction(self.rate, 1000)
        los = [s - b - (t - b) * rate for a, s, b in exchanges]
        his = [s - a + (b - a) * rate + (t - b) * rate for a, s, b in exchanges]
        return max(los), min(his)

    def exchange(self, c, a, s, b):
        member = self.member(c)
        if not member:
            return [-1]
        since = max([a] + [done[2] for done in member.exchanges])
        if not 0 <= a <= 10 ** 9 or not 0 <= s <= 10 ** 9 or not since <= b <= 10 ** 9:
            return [-2]
        member.exchanges.append((a, s, b))
        lo, hi = self.bounds(member.exchanges, b)
        good = lo <= hi
        if not good:
            member.exchanges = [(a, s, b)]
            lo, hi = self.bounds(member.exchanges, b)
        return [0, int(good), *Fraction(lo).as_integer_ratio(), *Fraction(hi).as_integer_ratio()]

    def offset(self, c, t):
        member = self.member(c)
        if not member:
            return [-1]
        if not member.exchanges:
            return [-9]
        if not member.exchanges[-1][2] <= t <= 10 ** 9:
            return [-2]
        lo, hi = self.bounds(member.exchanges, t)
        return [0, *Fraction(lo).as_integer_ratio(), *Fraction(hi).as_integer_ratio()]

    def drift(self, d):
        if d not in range(501):
            return [-2]
        if any(member.exchanges for member in self.members):
            return [-3]
        self.rate = d
        return [0]

    def packet(self, p):
        if p not in range(len(self.packets)):
            return [-1]
        way, member, t, rest = self.packets[p]
        if way == "up":
            return sum([[i, *rest[i]] for i in sorted(rest)], [0, 1, member.number, t, len(rest)])
        old, new = self.worlds[rest], self.worlds[t]
        keys = sorted(dict(old.items() ^ new.items()))
        rows = [[k, int(k in old), old.get(k, 0), int(k in new), new.get(k, 0)] for k in keys]
        return sum(rows, [0, 0, member.number, t, rest, len(keys)])

    def counts(self):
        at = len(self.worlds) - 1
        rows = [[m.number, m.own, m.known, len(self.last_sent(m))] for m in self.members]
        return sum(rows, [0, at, len(self.now), len(self.packets), min(at, 64)])

    def ring(self, c):
        member = self.member(c)
        return [0] + self.ticks_kept(member)[::-1] if member else [-1]


def stepped(seen, own, ax, ay):
    """A body's keys behind one input."""
    behind = {1000 + own: seen[1000 + own] + 1}
    for key, a in ((4 * own, ax), (4 * own + 1, ay)):
        v = min(20, max(-20, seen[key + 2] + a))
        x = seen[key] + v
        behind[key + 2] = v if 0 <= x <= 1000 else -v
        behind[key] = abs(x) if x <= 1000 else 2000 - x
    return behind


def followed_all(start, inputs):
    """Body 0 behind all these inputs."""
    seen = dict(start)
    for ax, ay in inputs:
        seen.update(stepped(seen, 0, ax, ay))
    return seen


def some_number(rng, low, high):
    """Mostly in its range, its edges often, at times beyond."""
    ways = rng.random()
    if ways < 0.05:
        return rng.choice((low - 1, high + 1, -3000000000, 3000000000))
    if ways < 0.25:
        return rng.choice((low, high))
    return rng.randint(low, high)


def held(number):
    """As near to it as a line's numbers may be."""
    return max(-BIG, min(BIG, number))


def some_key(rng):
    if rng.random() < 0.08:
        return rng.choice((-1, 31, 32, 1000, 1003, 1999, 2063, 2064))
    return rng.choice((rng.randint(0, 15), rng.randint(2000, 2005)))


def some_shot(rng, c, record):
    now = len(record.worlds) - 1
    t1 = max(1, now - int(rng.expovariate(0.1))) if rng.random() < 0.9 else rng.randint(0, 10000)
    t2 = t1 + rng.randint(0, 6) if rng.random() < 0.9 else rng.randint(0, 10001)
    d = some_number(rng, 1, rng.choice((1, 6, 1000)))
    n = held(some_number(rng, *sorted((t1 * d, (t2 + 3) * d))))
    dx, dy = some_number(rng, -1000, 1000), some_number(rng, -1000, 1000)
    member = record.member(c)
    bodies = [b for b in range(8) if 1000 + b in record.now and member and b != member.own]
    if bodies and rng.random() < 0.8:
        # Aimed at where another body is by now, so not always there where it was.
        b = rng.choice(bodies)
        dx, dy = [record.now[4 * b + axis] - record.now[4 * member.own + axis] + rng.choice((0, 0, -2, 2))
                  for axis in range(2)]
    return shot(c, dx, dy, t1, t2, n, d)


def some_render(rng, c, record):
    member = record.member(c)
    ticks = record.ticks_kept(member) if member else []
    d = some_number(rng, 1, rng.choice((1, 6, 6, 1000)))
    if ticks and rng.random() < 0.9:
        n = held(rng.randint(*sorted(((ticks[0] - 1) * d, (ticks[-1] + 4) * d))))
        # Mostly a key whose value isn't the same in all that's kept.
        seen = [record.worlds[t] for t in ticks]
        k = rng.choice(sorted(k for k in {**seen[0], **seen[-1]} if len({old.get(k) for old in seen}) > 1) or [0])
    else:
        n = some_number(rng, 0, 1000000)
        k = some_number(rng, 0, 4095)
    return render(c, k if rng.random() < 0.8 else some_key(rng), n, d)


def some_exchange(rng, c, record):
    member = record.member(c)
    known = member.exchanges[-1][2] if member and member.exchanges else 0
    if rng.random() < 0.1:
        return exchange(c, some_number(rng, 0, 10 ** 9), some_number(rng, 0, 10 ** 9), some_number(rng, 0, 10 ** 9))
    b = known + rng.choice((-1, 0, 1, rng.randint(0, 30)))
    a = b - rng.choice((-1, 0, 1, rng.randint(0, 30), rng.randint(0, 30)))
    return exchange(c, a, a + 1000 + rng.randint(-15, 30), b)


def some_asking(rng, way, record):
    """A call of the last ten, such that most of them aren't refused."""
    members = [member.number for member in record.members]
    c = rng.choice(members) if members and rng.random() < 0.97 else some_number(rng, 0, 9)
    if way == "shot":
        return some_shot(rng, c, record)
    if way == "exchange":
        return some_exchange(rng, c, record)
    if way == "offset":
        member = record.member(c)
        known = member.exchanges[-1][2] if member and member.exchanges else 0
        return offset(c, rng.choice((known - 1, known, known + rng.randint(0, 50), some_number(rng, 0, 10 ** 9))))
    if way == "render":
        return some_render(rng, c, record)
    return {"base": lambda: base(c), "guess": lambda: guess(c), "ring": lambda: ring(c), "counts": counts,
            "drift": lambda: drift(some_number(rng, 0, 500)),
            "packet": lambda: packet(rng.randint(-1, len(record.packets)))}[way]()


def some_call(rng, way, made, members):
    c = rng.choice(members) if members and way != "client" and rng.random() < 0.95 else some_number(rng, 0, 9)
    if way == "deliver":
        # Late ones, twice or never, but the newest more often than not.
        near = made - 1 - int(rng.expovariate(0.3))
        return deliver(rng.choice((near, near, near, rng.randint(-1, made))))
    if way == "put":
        k = some_key(rng)
        low, high = (-5, 5) if rng.random() < 0.8 else (-1000000, 1000000)
        return put(k, some_number(rng, *((0, 1000) if k % 4 < 2 else (-20, 20)) if k < 32 else (low, high)))
    if way == "body":
        return body(some_number(rng, 0, 5), some_number(rng, 0, 1000), some_number(rng, 0, 1000),
                    some_number(rng, -20, 20), some_number(rng, -20, 20))
    return {"client": lambda: client(c, some_number(rng, 0, 5)), "unset": lambda: unset(some_key(rng)),
            "tick": tick, "send": lambda: send(c), "up": lambda: up(c), "world": world,
            "push": lambda: push(c, some_number(rng, -3, 3), some_number(rng, -3, 3))}[way]()


WAYS = ("body", "client", "put", "unset", "tick", "send", "up", "deliver", "push", "world")
ASKING = ("base", "guess", "render", "shot", "exchange", "offset", "drift", "packet", "counts", "ring")
ASKED = (3, 4, 12, 8, 5, 3, 1, 3, 2, 2)
SEEDS = 210
# How often each call comes; the rows lay stress on other things.
MIXES = (
    (2, 2, 3, 2, 10, 12, 8, 24, 20, 2),
    (1, 1, 6, 6, 15, 20, 15, 20, 2, 2),
    (1, 1, 1, 1, 4, 6, 6, 12, 60, 1),
    (1, 1, 2, 1, 20, 20, 1, 20, 3, 1),
    (4, 4, 4, 4, 4, 4, 4, 4, 4, 4),
    (0, 0, 1, 1, 10, 45, 45, 20, 1, 1),
    (0, 0, 1, 1, 8, 10, 3, 12, 0, 1),
)
START = [body(0, 500, 500, 0, 0), client(3, 0), body(1, 0, 1000, -20, 20), client(0, 1), body(2), client(7, 2)]


@functools.lru_cache(maxsize=None)
def some_line(seed):
    rng = random.Random(seed)
    record = Record()
    calls = START[:2 * rng.choice((0, 1, 1, 2, 3))]
    wanted = [record.answer(call) for call in calls]
    mix = MIXES[seed % len(MIXES)]
    share = (0.05, 0.3, 0.6)[seed // len(MIXES) % 3]
    while len(calls) < 300:
        if rng.random() < share:
            calls.append(some_asking(rng, rng.choices(ASKING, ASKED)[0], record))
            wanted.append(record.answer(calls[-1]))
            continue
        way = rng.choices(WAYS, mix)[0]
        if way == "tick" and calls.count(tick()) == 150:
            continue
        members = [member.number for member in record.members]
        calls.append(some_call(rng, way, len(record.packets), members))
        wanted.append(record.answer(calls[-1]))
    return calls, wanted


class AtRandom(Case):
    def test_lines_are_answered_as_the_record_tells(self):
        for seed in range(SEEDS):
            calls, wanted = some_line(seed)
            told = run(*calls)
            for place, call in enumerate(calls):
                self.assertEqual(told[place], wanted[place], (seed, place, call))

    def test_the_lines_reach_every_call_and_refusal(self):
        seen, met, broken, forgotten = set(), 0, 0, 0
        for seed in range(SEEDS):
            calls, wanted = some_line(seed)
            seen.update((call[0], min(0, answer[0])) for call, answer in zip(calls, wanted))
            good = [(call, answer) for call, answer in zip(calls, wanted) if answer[0] == 0]
            met += sum(answer[1] for call, answer in good if call[0] == 13)
            broken += sum(answer[2] > 1 for call, answer in good if call[0] == 12)
            forgotten += sum(answer[1] == 0 for call, answer in good if call[0] == 14)
        self.assertGreater(min(met, broken, forgotten), 150, (met, broken, forgotten))
        told = {0: (0, -2, -3), 1: (0, -2, -3, -1, -4), 2: (0, -1, -2), 3: (0, -2, -1), 4: (0,), 5: (0, -1, -6, -4),
                6: (0, -1, -4), 7: (0, -1), 8: (0, -1, -2, -4), 9: (0,), 10: (0, -1), 11: (0, -1), 12: (0, -1, -2, -7),
                13: (0, -1, -2, -8), 14: (0, -1, -2), 15: (0, -1, -9, -2), 16: (0, -2, -3), 17: (0, -1), 18: (0,),
                19: (0, -1)}
        self.assertEqual({(call, answer) for call in told for answer in told[call]} - seen, set())

    def test_refusals_and_questions_change_nothing(self):
        for seed in range(30):
            net = Net()
            for call in some_line(seed)[0]:
                before = state(net)
                refused = answer_call(net, call[0], list(call[1:]))[0] < 0
                if refused or call[0] in (9, 10, 11, 12, 13, 15, 17, 18, 19):
                    self.assertEqual(state(net), before, (seed, call))


class FirstPromise(Case):
    def test_every_world_that_a_client_has_is_the_servers(self):
        most = 0
        for seed in range(60):
            net, record = Net(), Record()
            for call in some_line(seed)[0]:
                record.answer(call)
                if call[0] == 7 and 0 <= call[1] < len(net.packets):
                    self.check_fit(net, net.packets[call[1]])
                answer_call(net, call[0], list(call[1:]))
                for member in record.members:
                    seen = net.clients[member.number].worlds
                    self.assertEqual(list(seen), [t for t in member.came if t][-16:])
                    for number in seen:
                        self.assertEqual(seen[number], record.worlds[number], (seed, call))
                    most = max(most, len(seen))
        self.assertEqual(most, 16)

    def check_fit(self, net, packet):
        member = net.clients[packet.client]
        if hasattr(packet, "changes") and packet.tick > member.last_tick:
            base = member.worlds[packet.base] if packet.base else {}
            self.assertEqual([was for key, was, now in packet.changes],
                             [base.get(key) for key, was, now in packet.changes])


class SecondPromise(Case):
    def test_a_body_is_what_its_clients_first_inputs_make_of_it(self):
        followed = 0
        for seed in range(60):
            rng = random.Random(seed)
            start = {0: rng.randint(0, 1000), 1: rng.randint(0, 1000), 2: rng.randint(-20, 20),
                     3: rng.randint(-20, 20), 1000: 0}
            calls, made = [body(0, start[0], start[1], start[2], start[3]), client(3, 0)], 0
            while len(calls) < 300:
                way = rng.choices(("push", "up", "send", "tick", "deliver", "world", "guess"), (9, 4, 3, 4, 9, 2, 3))[0]
                calls.append(some_call(rng, way, made, [3]) if way == "deliver" else {
                    "push": push(3, rng.randint(-3, 3), rng.randint(-3, 3)), "up": up(3), "send": send(3),
                    "tick": tick(), "world": world(), "guess": guess(3)}[way])
                made += way in ("up", "send")
            followed += self.check_line(start, calls)
        self.assertGreater(followed, 1000)

    def check_line(self, start, calls):
        inputs = []
        seen = start
        came = False
        for call, answer in zip(calls, run(*calls)):
            if call[0] == 8 and answer[0] == 0:
                inputs.append(call[2:])
            # The body was there ahead of the first tick, so it's in each world that comes.
            came = came or (call[0] == 7 and answer == [0, 0])
            if call[0] == 9:
                seen = shown(answer)
                self.assertEqual(seen, followed_all(start, inputs[:seen[1000]]))
            if call[0] == 11 and came:
                self.assertEqual(answer[2:], list(followed_all(start, inputs).values()))
        return seen[1000]


class Helper(Case):
    def test_answers_are_told_apart(self):
        self.assertEqual(split([1, 0, 2, 0, 1]), [[0], [0, 1]])
        with self.assertRaises(AssertionError):
            split([2, 0])
