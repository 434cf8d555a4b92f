"""shot: which bodies it meets, how far along its way, and what it is judged by."""

import random
from fractions import Fraction

from tests.helper import (
    BIG, Case, body, client, deliver, last, play, push, put, render, ring, run, send, shot, state, tick, up,
)

# Client 0 shoots from (500, 500); nothing moves.
SHOOTER = [body(0), client(0, 0)]


def still(*places):
    """Bodies 1, 2, 3 ... at these places, at both ticks."""
    return SHOOTER + [body(number, x, y) for number, (x, y) in enumerate(places, 1)] + [tick(), tick()]


def moving(first, second):
    """Body 1 is at the first place at tick 1 and at the second one at tick 3."""
    calls = SHOOTER + [body(1, first[0], first[1]), tick()]
    return calls + [put(4, second[0]), put(5, second[1]), tick(), tick()]


class Refusals(Case):
    READY = still((600, 500)) + [tick()] * 3

    def test_no_such_client(self):
        self.refused([], shot(0, 1, 0, 1, 2, 1), -1)
        for c in (-1, 1, 10, BIG, -BIG):
            self.refused(self.READY, shot(c, 1, 0, 1, 2, 1), -1)

    def test_edges_of_the_direction(self):
        for dx, dy in ((-1000, 0), (1000, 0), (0, -1000), (0, 1000), (1000, 1000), (-1000, -1000), (0, 1), (-1, 0)):
            self.assertEqual(last(*self.READY, shot(0, dx, dy, 1, 2, 1))[0], 0)

    def test_beyond_the_edges_of_the_direction(self):
        for dx, dy in ((0, 0), (-1001, 0), (1001, 0), (0, -1001), (0, 1001), (BIG, 1), (1, -BIG)):
            self.refused(self.READY, shot(0, dx, dy, 1, 2, 1), -2)

    def test_edges_of_the_time(self):
        for t1, t2, n, d in ((1, 2, 1, 1), (1, 2, 5, 1), (1, 5, 8, 1), (2, 4, 2000, 1000), (2, 4, 7000, 1000),
                             (1, 2, 3, 3), (1, 2, 15, 3), (4, 5, 8, 2), (4, 5, 16, 2)):
            self.taken(self.READY, shot(0, 1, 0, t1, t2, n, d), [0, 1, 1, 100, 1])

    def test_beyond_the_edges_of_the_time(self):
        for t1, t2, n, d in ((1, 2, 0, 1), (1, 2, 6, 1), (1, 5, 9, 1), (2, 4, 1999, 1000), (2, 4, 7001, 1000),
                             (1, 2, 2, 3), (1, 2, 16, 3), (1, 2, -1, 1), (1, 2, 0, 0), (1, 2, 1001, 1001),
                             (1, 2, -1, -1), (1, 2, 1, 0), (1, 2, BIG, 1), (1, 2, 1, BIG), (1, 2, -BIG, 1)):
            self.refused(self.READY, shot(0, 1, 0, t1, t2, n, d), -2)

    def test_beyond_the_edges_of_the_ticks(self):
        for t1, t2, n in ((0, 1, 1), (0, 2, 1), (-1, 2, 1), (1, 1, 1), (2, 1, 2), (2, 2, 2), (3, 2, 3),
                          (10000, 10000, 10000), (10000, 10001, 10000), (1, 10001, 1), (9999, 10001, 9999),
                          (BIG, BIG, 5), (-BIG, 2, 1), (1, BIG, 1), (1, -BIG, 1)):
            self.refused(self.READY, shot(0, 1, 0, t1, t2, n), -2)

    def test_edges_of_the_ticks(self):
        self.refused(self.READY, shot(0, 1, 0, 1, 10000, 1), -8)
        self.refused(self.READY, shot(0, 1, 0, 9999, 10000, 9999), -8)
        self.refused(self.READY, shot(0, 1, 0, 9999, 10000, 10003), -8)
        self.refused(self.READY, shot(0, 1, 0, 9999, 10000, 1000000, 100), -8)
        self.refused(self.READY, shot(0, 1, 0, 9999, 10000, 1000001, 100), -2)
        self.refused(self.READY, shot(0, 1, 0, 9999, 10000, 10004), -2)

    def test_ticks_that_are_not_kept(self):
        self.refused(SHOOTER, shot(0, 1, 0, 1, 2, 1), -8)
        self.refused(SHOOTER + [tick()], shot(0, 1, 0, 1, 2, 1), -8)
        self.refused(self.READY, shot(0, 1, 0, 5, 6, 5), -8)
        self.refused(self.READY, shot(0, 1, 0, 6, 7, 6), -8)
        many = SHOOTER + [body(1, 600, 500)] + [tick()] * 64
        self.taken(many, shot(0, 1, 0, 1, 64, 1), [0, 1, 1, 100, 1])
        self.refused(many + [tick()], shot(0, 1, 0, 1, 65, 1), -8)
        self.refused(many + [tick()], shot(0, 1, 0, 1, 2, 1), -8)
        self.taken(many + [tick()], shot(0, 1, 0, 2, 65, 2), [0, 1, 1, 100, 1])

    def test_the_refusal_told_first(self):
        self.refused(self.READY, shot(1, 0, 0, 1, 2, 1), -1)
        self.refused(self.READY, shot(1, 1, 0, 1, 100, 1), -1)
        self.refused(self.READY, shot(0, 0, 0, 1, 100, 1), -2)
        self.refused(self.READY, shot(0, 1, 0, 1, 100, 0), -2)

    def test_a_shot_changes_nothing(self):
        calls = self.READY + [shot(0, 1, 0, 1, 2, 3, 2)]
        self.assertEqual(state(play(*calls)), state(play(*self.READY)))


class Meets(Case):
    def check(self, calls, direction, *wanted):
        rows = [n for row in wanted for n in row]
        self.assertEqual(last(*calls, shot(0, *direction, 1, 2, 1)), [0, len(wanted)] + rows)

    def test_nobody_else(self):
        self.check(SHOOTER + [tick(), tick()], (1, 0))

    def test_ahead(self):
        calls = still((600, 500))
        self.check(calls, (1, 0), (1, 100, 1))
        self.check(calls, (100, 0), (1, 1, 1))
        self.check(calls, (1000, 0), (1, 1, 10))
        self.check(calls, (7, 0), (1, 100, 7))
        self.check(calls, (-1, 0))
        self.check(calls, (0, 1))
        self.check(calls, (1, 1))

    def test_every_way(self):
        for dx, dy in ((3, 0), (-3, 0), (0, 3), (0, -3), (3, 3), (-3, 3), (3, -3), (-3, -3), (3, 6), (-6, 3)):
            calls = still((500 + 12 * dx, 500 + 12 * dy), (500 - 12 * dx, 500 - 12 * dy))
            self.check(calls, (dx, dy), (1, 12, 1))
            self.check(calls, (-dx, -dy), (2, 12, 1))
            self.check(calls, (dx * 24, dy * 24), (1, 1, 2))

    def test_25_away_and_more(self):
        for aside in (-5, 5):
            self.check(still((600, 500 + aside)), (1, 0), (1, 100, 1))
            self.check(still((500 + aside, 600)), (0, 2), (1, 50, 1))
        for aside in (-6, 6):
            self.check(still((600, 500 + aside)), (1, 0))
            self.check(still((500 + aside, 600)), (0, 2))

    def test_25_away_aslant(self):
        # (-3, 4) is 5 aside of the way (4, 3): 10 times the way and that is (40 - 3, 30 + 4).
        self.check(still((537, 534)), (4, 3), (1, 10, 1))
        self.check(still((543, 526)), (4, 3), (1, 10, 1))
        self.check(still((536, 534)), (4, 3))
        self.check(still((537, 535)), (4, 3))
        self.check(still((538, 534)), (4, 3), (1, 254, 25))

    def test_what_lies_behind(self):
        # Its beginning is nearest, so the whole distance counts there, not the one from the line.
        self.check(still((495, 500)), (1, 0), (1, 0, 1))
        self.check(still((494, 500)), (1, 0))
        self.check(still((497, 504)), (1, 0), (1, 0, 1))
        self.check(still((497, 505)), (1, 0))
        self.check(still((496, 504)), (1, 0))
        self.check(still((400, 500)), (1, 0))

    def test_at_the_beginning_and_beside_it(self):
        self.check(still((500, 500)), (1, 0), (1, 0, 1))
        self.check(still((500, 505)), (1, 0), (1, 0, 1))
        self.check(still((500, 495)), (-7, 0), (1, 0, 1))
        self.check(still((500, 506)), (1, 0))
        self.check(still((501, 505)), (1, 0), (1, 1, 1))
        self.check(still((503, 496)), (4, 3), (1, 0, 1))

    def test_fractions_in_least_terms(self):
        self.check(still((510, 512)), (4, 4), (1, 11, 4))
        self.check(still((510, 510)), (4, 4), (1, 5, 2))
        self.check(still((600, 503)), (1000, 0), (1, 1, 10))
        self.check(still((502, 500)), (999, 1000), (1, 1998, 1998001))

    def test_without_end(self):
        calls = [body(0, 0, 0), client(0, 0), body(1, 1000, 1000), tick(), tick()]
        self.check(calls, (1, 1), (1, 1000, 1))
        self.check(calls, (1000, 1000), (1, 1, 1))
        self.check(calls, (999, 1000), (1, 1999000, 1998001))

    def test_nearest_first(self):
        calls = still((700, 500), (600, 503), (650, 497), (400, 500), (800, 520))
        self.check(calls, (1, 0), (2, 100, 1), (3, 150, 1), (1, 200, 1))
        self.check(calls, (300, 0), (2, 1, 3), (3, 1, 2), (1, 2, 3))

    def test_of_equal_ones_the_lesser_number(self):
        calls = still((600, 503), (550, 500), (600, 500), (600, 496), (550, 504))
        self.check(calls, (1, 0), (2, 50, 1), (5, 50, 1), (1, 100, 1), (3, 100, 1), (4, 100, 1))
        self.check(still((497, 500), (500, 500), (499, 502)), (1, 0), (1, 0, 1), (2, 0, 1), (3, 0, 1))

    def test_all_eight_bodies(self):
        calls = [body(b, 10 * b, 500) for b in range(8)] + [client(0, 3), tick(), tick()]
        self.check(calls, (1, 0), (4, 10, 1), (5, 20, 1), (6, 30, 1), (7, 40, 1))
        self.check(calls, (-1, 0), (2, 10, 1), (1, 20, 1), (0, 30, 1))

    def test_other_clients_bodies_too_but_never_its_own(self):
        calls = SHOOTER + [body(5, 600, 500), client(7, 5), body(2, 520, 500), tick(), tick()]
        self.assertEqual(last(*calls, shot(7, -1, 0, 1, 2, 1)), [0, 2, 2, 80, 1, 0, 100, 1])
        self.check(calls, (1, 0), (2, 20, 1), (5, 100, 1))


class Times(Case):
    def check(self, calls, call, *wanted):
        self.assertEqual(last(*calls, call), [0, len(wanted)] + [n for row in wanted for n in row])

    def test_a_body_that_moves_along(self):
        calls = moving((600, 500), (640, 500))
        for n, d, *f in ((1, 1, 100, 1), (2, 1, 120, 1), (3, 2, 110, 1), (3, 1, 140, 1), (4, 3, 320, 3),
                         (2999, 1000, 6999, 50), (4, 1, 160, 1), (6, 1, 200, 1), (5999, 1000, 9999, 50)):
            self.check(calls, shot(0, 1, 0, 1, 3, n, d), (1, *f))
        self.refused(calls, shot(0, 1, 0, 1, 3, 6001, 1000), -2)

    def test_a_body_that_moves_across(self):
        # By y it's -20 at tick 1 and 20 at tick 3: 20 a tick, so it's met from 7 / 4 to 9 / 4.
        calls = moving((600, 480), (600, 520))
        for n, d, met in ((1, 1, 0), (1749, 1000, 0), (7, 4, 1), (2, 1, 1), (9, 4, 1), (2251, 1000, 0), (3, 1, 0)):
            self.check(calls, shot(0, 1, 0, 1, 3, n, d), *[(1, 100, 1)] * met)

    def test_beyond_the_second_tick(self):
        # By y it's -30 at tick 1 and -10 at tick 3: 10 a tick, so 0 at tick 4, 5 at 4.5.
        calls = moving((600, 470), (600, 490))
        for n, d, met in ((3, 1, 0), (3499, 1000, 0), (7, 2, 1), (4, 1, 1), (9, 2, 1), (4501, 1000, 0), (6, 1, 0)):
            self.check(calls, shot(0, 1, 0, 1, 3, n, d), *[(1, 100, 1)] * met)

    def test_beyond_the_walls_in_the_same_line(self):
        calls = [body(0, 0, 500), client(0, 0), body(1, 960, 500), tick(), put(4, 1000), tick()]
        self.check(calls, shot(0, 1, 0, 1, 2, 5), (1, 1120, 1))
        calls = [body(0, 500, 500), client(0, 0), body(1, 40, 500), tick(), put(4, 0), tick()]
        self.check(calls, shot(0, -1, 0, 1, 2, 5), (1, 620, 1))

    def test_the_ticks_told_are_the_ones_that_count(self):
        calls = SHOOTER + [body(1, 600, 500)]
        for x in (610, 700, 640, 900):
            calls += [tick(), put(4, x)]
        calls += [tick()]
        # At the ticks 1 to 5: 600, 610, 700, 640, 900.
        self.check(calls, shot(0, 1, 0, 1, 3, 2), (1, 150, 1))
        self.check(calls, shot(0, 1, 0, 2, 4, 3), (1, 125, 1))
        self.check(calls, shot(0, 1, 0, 2, 3, 5), (1, 380, 1))
        self.check(calls, shot(0, 1, 0, 1, 5, 4), (1, 325, 1))
        self.check(calls, shot(0, 1, 0, 3, 4, 5), (1, 80, 1))

    def test_the_shooter_is_where_it_is_by_now(self):
        calls = moving((600, 500), (640, 500)) + [put(0, 540), put(4, 0)]
        self.check(calls, shot(0, 1, 0, 1, 3, 1), (1, 60, 1))
        self.check(calls + [put(1, 506)], shot(0, 1, 0, 1, 3, 1))
        calls = SHOOTER + [body(1, 600, 500), tick(), tick(), push(0, 3, 0), up(0), deliver(0)]
        self.check(calls, shot(0, 1, 0, 1, 2, 2), (1, 100, 1))
        self.check(calls + [tick()], shot(0, 1, 0, 1, 2, 2), (1, 97, 1))

    def test_a_body_in_one_of_the_two_worlds_alone(self):
        calls = SHOOTER + [tick(), body(1, 600, 500), tick(), put(4, 700), tick()]
        for n in (1, 2, 5):
            self.check(calls, shot(0, 1, 0, 1, 2, n), (1, 100, 1))
        self.check(calls, shot(0, 1, 0, 1, 3, 2), (1, 200, 1))
        self.check(calls, shot(0, 1, 0, 2, 3, 2), (1, 100, 1))

    def test_a_body_in_neither_of_the_two_worlds(self):
        calls = SHOOTER + [tick(), tick(), body(1, 600, 500)]
        self.check(calls, shot(0, 1, 0, 1, 2, 2))
        self.check(calls + [tick()], shot(0, 1, 0, 1, 2, 2))
        self.check(calls + [tick()], shot(0, 1, 0, 2, 3, 2), (1, 100, 1))

    def test_the_shooters_body_may_be_in_neither(self):
        calls = [body(1, 600, 500), tick(), tick()] + SHOOTER
        self.check(calls, shot(0, 1, 0, 1, 2, 1), (1, 100, 1))

    def test_broken_places_exactly_25_away(self):
        # At 4 / 3 the body is at y 505 exactly; a little earlier or later it isn't near enough.
        calls = SHOOTER + [body(1, 600, 504), tick(), put(5, 507), tick()]
        self.check(calls, shot(0, 1, 0, 1, 2, 4, 3), (1, 100, 1))
        self.check(calls, shot(0, 1, 0, 1, 2, 1333, 1000), (1, 100, 1))
        self.check(calls, shot(0, 1, 0, 1, 2, 1334, 1000))


def met_by_words(x, y, dx, dy, places):
    """Which bodies a shot meets, from where they are shown."""
    found = []
    for number, (at_x, at_y) in places.items():
        f = max(Fraction(0), ((at_x - x) * dx + (at_y - y) * dy) / Fraction(dx * dx + dy * dy))
        if (x + f * dx - at_x) ** 2 + (y + f * dy - at_y) ** 2 <= 25:
            found.append((f, number))
    return [0, len(found)] + [n for f, number in sorted(found) for n in (number, f.numerator, f.denominator)]


class ThirdPromise(Case):
    def test_a_shot_is_judged_by_what_the_client_was_shown(self):
        met = 0
        for seed in range(60):
            rng = random.Random(seed)
            calls = [body(b, rng.randint(400, 600), rng.randint(400, 600)) for b in range(5)] + [client(0, 0)]
            made = 0
            for count in range(12):
                calls += [put(4 * rng.randint(0, 4) + rng.randint(0, 1), rng.randint(400, 600)), tick()]
                if rng.random() < 0.7:
                    calls += [send(0)] + [deliver(made)] * rng.randint(0, 2)
                    made += 1
            ticks = last(*calls, ring(0))[1:]
            if len(ticks) > 1:
                met += sum(self.check_shot(rng, calls, ticks) for count in range(20))
        self.assertGreater(met, 300)

    def check_shot(self, rng, calls, ticks):
        d = rng.randint(1, 12)
        n = rng.randint(min(ticks) * d, (max(ticks) + 3) * d)
        later = [t for t in ticks if t * d > n] or [max(ticks)]
        t2 = min(later)
        t1 = max(t for t in ticks if t < t2)
        asked = [render(0, 4 * b + axis, n, d) for b in range(1, 5) for axis in range(2)]
        told = run(*calls, *asked)[-8:]
        places = {b: (Fraction(*told[2 * b - 2][1:]), Fraction(*told[2 * b - 1][1:])) for b in range(1, 5)}
        x, y = [play(*calls).world[key] for key in range(2)]
        aim = places[rng.randint(1, 4)]
        dx, dy = [round(at - own) + rng.randint(-3, 3) for at, own in zip(aim, (x, y))]
        answer = last(*calls, shot(0, dx or 1, dy, t1, t2, n, d))
        self.assertEqual(answer, met_by_words(x, y, dx or 1, dy, places))
        return answer[1]
