"""render: what is shown to a client between, ahead of and behind the worlds that it has kept."""

from fractions import Fraction

from mirrornet.between import shown_value
from mirrornet.ratios import least_terms
from tests.helper import (
    BIG, Case, body, client, deliver, last, play, push, put, render, run, send, state, tick, unset, up,
)

ONE = [body(0), client(0, 0)]


def kept(*rows):
    """Calls behind which client 0 has the worlds of just these ticks, each with these values of keys from 2000 on."""
    calls, now, passed = list(ONE), {}, 0
    for number, (at, values) in enumerate(rows):
        calls += [tick()] * (at - passed - 1)
        calls += [unset(k) for k in now if k not in values]
        calls += [put(k, z) for k, z in values.items()]
        calls += [tick(), send(0), deliver(number)]
        now, passed = values, at
    return calls


class Refusals(Case):
    TWO = kept((2, {2000: 4}), (5, {2000: 10}))

    def test_no_such_client(self):
        self.refused([], render(0, 0, 0), -1)
        for c in (-1, 1, 10, BIG, -BIG):
            self.refused(self.TWO, render(c, 2000, 3), -1)

    def test_edges(self):
        for n, d, wanted in ((0, 1, 4), (0, 1000, 4), (1000000, 1, 16), (1000000, 1000, 16)):
            self.taken(self.TWO, render(0, 2000, n, d), [0, wanted, 1])
        self.taken(self.TWO, render(0, 0, 0, 1), [0, 500, 1])

    def test_beyond_the_edges(self):
        for k, n, d in ((-1, 3, 1), (4096, 3, 1), (2000, -1, 1), (2000, 1000001, 1), (2000, 3, 0), (2000, 3, 1001),
                        (2000, 3, -1), (BIG, 3, 1), (-BIG, 3, 1), (2000, BIG, 1), (2000, -BIG, 1), (2000, 3, BIG)):
            self.refused(self.TWO, render(0, k, n, d), -2)

    def test_there_is_none(self):
        for k in (4, 31, 32, 999, 1001, 1999, 2001, 2063, 2064, 4095):
            for n in (0, 2, 3, 5, 6, 100):
                self.refused(self.TWO, render(0, k, n), -7)

    def test_nothing_came(self):
        self.refused(ONE, render(0, 0, 0), -7)
        self.refused(ONE + [put(2000, 1), tick(), send(0)], render(0, 2000, 1), -7)

    def test_the_refusal_told_first(self):
        self.refused(self.TWO, render(1, 4096, 3, 1), -1)
        self.refused(self.TWO, render(1, 2000, 3, 0), -1)
        self.refused(ONE, render(1, 4095, 3, 1), -1)
        self.refused(ONE, render(0, 0, 0, 0), -2)
        self.refused(self.TWO, render(0, 2001, 3, 1001), -2)
        self.refused(self.TWO, render(0, 4096, 3, 1), -2)


class Shown(Case):
    def check(self, calls, key, rows):
        for n, d, *wanted in rows:
            self.assertEqual(last(*calls, render(0, key, n, d)), [0] + wanted, (n, d))

    def test_at_and_between_ticks(self):
        calls = kept((2, {2000: 4}), (5, {2000: 10}), (6, {2000: 0}))
        self.check(calls, 2000, [
            (2, 1, 4, 1), (3, 1, 6, 1), (4, 1, 8, 1), (5, 1, 10, 1), (6, 1, 0, 1), (7, 2, 7, 1), (9, 4, 9, 2),
            (7, 3, 14, 3), (4999, 1000, 4999, 500), (11, 2, 5, 1), (16, 3, 20, 3), (5999, 1000, 1, 100),
            (4, 2, 4, 1), (10, 2, 10, 1), (5000, 1000, 10, 1)])

    def test_falling_and_below_0(self):
        calls = kept((1, {2000: 5, 2001: -7}), (4, {2000: -5, 2001: -3}))
        self.check(calls, 2000, [(1, 1, 5, 1), (2, 1, 5, 3), (5, 2, 0, 1), (3, 1, -5, 3), (4, 1, -5, 1), (7, 3, 5, 9)])
        self.check(calls, 2001, [(1, 1, -7, 1), (2, 1, -17, 3), (7, 4, -6, 1), (4, 1, -3, 1)])

    def test_a_value_that_stays(self):
        calls = kept((1, {2000: 6, 2001: 0}), (8, {2000: 6, 2001: 0}))
        for n, d in ((0, 1), (1, 1), (10, 3), (8, 1), (25, 3), (500, 7)):
            self.check(calls, 2000, [(n, d, 6, 1)])
            self.check(calls, 2001, [(n, d, 0, 1)])

    def test_ahead_of_the_first(self):
        calls = kept((3, {2000: 4}), (5, {2000: 10, 2001: 1}))
        self.check(calls, 2000, [(0, 1, 4, 1), (1, 1, 4, 1), (5, 2, 4, 1), (2999, 1000, 4, 1), (3, 1, 4, 1)])
        self.refused(calls, render(0, 2001, 0), -7)
        self.refused(calls, render(0, 2001, 2999, 1000), -7)
        self.taken(calls, render(0, 2001, 3), [0, 1, 1])

    def test_behind_the_last(self):
        calls = kept((1, {2000: 90}), (3, {2000: 4}), (5, {2000: 10}))
        self.check(calls, 2000, [
            (5, 1, 10, 1), (11, 2, 23, 2), (6, 1, 13, 1), (7, 1, 16, 1), (8, 1, 19, 1), (7999, 1000, 18997, 1000),
            (8001, 1000, 19, 1), (9, 1, 19, 1), (1000000, 1, 19, 1), (17, 2, 19, 1)])

    def test_behind_the_last_falling(self):
        calls = kept((2, {2000: 10}), (5, {2000: 3}))
        self.check(calls, 2000, [(6, 1, 2, 3), (7, 1, -5, 3), (8, 1, -4, 1), (9, 1, -4, 1), (22, 3, -22, 9)])

    def test_one_world_alone(self):
        calls = kept((4, {2000: 7}))
        for n, d in ((0, 1), (3, 1), (4, 1), (9, 2), (7, 1), (8, 1), (1000000, 1)):
            self.check(calls, 2000, [(n, d, 7, 1)])
            self.refused(calls, render(0, 2001, n, d), -7)

    def test_keys_in_the_first_of_the_two_alone(self):
        calls = kept((2, {2000: 4, 2001: 0}), (3, {2001: 0}))
        for n, d in ((0, 1), (2, 1), (5, 2), (3, 1), (4, 1), (6, 1), (100, 1)):
            self.check(calls, 2000, [(n, d, 4, 1)])

    def test_keys_in_the_second_of_the_two_alone(self):
        calls = kept((2, {}), (3, {2000: 4}))
        for n, d in ((2, 1), (5, 2), (3, 1), (4, 1), (6, 1), (100, 1)):
            self.check(calls, 2000, [(n, d, 4, 1)])
        self.refused(calls, render(0, 2000, 1999, 1000), -7)

    def test_the_two_worlds_around_the_time_alone_count(self):
        calls = kept((1, {2000: 4}), (2, {}), (3, {}), (5, {2000: 10}), (6, {}), (7, {}))
        self.check(calls, 2000, [(0, 1, 4, 1), (1, 1, 4, 1), (3, 2, 4, 1), (3, 1, 10, 1), (4, 1, 10, 1), (5, 1, 10, 1),
                                 (11, 2, 10, 1), (5999, 1000, 10, 1)])
        for n, d in ((2, 1), (5, 2), (6, 1), (13, 2), (7, 1), (8, 1), (100, 1)):
            self.refused(calls, render(0, 2000, n, d), -7)

    def test_a_key_of_0_is_there(self):
        calls = kept((1, {2000: 0}), (2, {}), (4, {2001: 0}))
        self.check(calls, 2000, [(0, 1, 0, 1), (3, 2, 0, 1)])
        self.check(calls, 2001, [(2, 1, 0, 1), (9, 1, 0, 1)])

    def test_every_kind_of_key(self):
        calls = [body(3, 100, 200, 4, -4), client(2, 3), put(2063, -1000000), tick(), send(2), deliver(0)]
        calls += [push(2, 1, 1), up(2), deliver(1), put(2063, 1000000), tick(), tick(), tick(), send(2), deliver(2)]
        told = run(*calls, *[render(2, k, 5, 2) for k in (12, 13, 14, 15, 1003, 2063)])[-6:]
        self.assertEqual(told, [[0, 205, 2], [0, 397, 2], [0, 9, 2], [0, -7, 2], [0, 1, 2], [0, 0, 1]])
        self.assertEqual(last(*calls, render(2, 2063, 1001, 1000)), [0, -2998000, 3])

    def test_worlds_that_did_not_come_do_not_count(self):
        calls = ONE + [call for z in (0, 10, 50, 60) for call in (put(2000, z), tick(), send(0))]
        calls += [deliver(0), deliver(3), deliver(1), deliver(2), put(2000, 7), tick()]
        self.check(calls, 2000, [(1, 1, 0, 1), (2, 1, 20, 1), (3, 1, 40, 1), (4, 1, 60, 1), (5, 1, 80, 1)])

    def test_worlds_that_are_not_kept_any_more_do_not_count(self):
        rows = [(number, {2000: number * number}) for number in range(1, 21)]
        calls = kept(*rows)
        self.check(calls, 2000, [(1, 1, 25, 1), (4, 1, 25, 1), (5, 1, 25, 1), (11, 2, 61, 2), (20, 1, 400, 1)])
        self.assertEqual(last(*kept(*rows[:16]), render(0, 2000, 3, 2)), [0, 5, 2])
        self.assertEqual(last(*kept(*rows[:17]), render(0, 2000, 3, 2)), [0, 4, 1])

    def test_each_client_is_shown_its_own(self):
        calls = ONE + [body(1), client(1, 1), put(2000, 1), tick(), send(0), deliver(0), put(2000, 2), tick(), send(1)]
        self.assertEqual(run(*calls, deliver(1), render(0, 2000, 2), render(1, 2000, 2))[-2:], [[0, 1, 1], [0, 2, 1]])

    def test_inputs_and_what_is_set_since_are_not_shown(self):
        calls = kept((1, {2000: 1}), (2, {2000: 2})) + [push(0, 3, 3), put(2000, 50)]
        self.check(calls, 0, [(2, 1, 500, 1), (4, 1, 500, 1)])
        self.check(calls, 2000, [(2, 1, 2, 1), (3, 1, 3, 1)])

    def test_asking_changes_nothing(self):
        calls = kept((1, {2000: 1}), (2, {2000: 2}))
        self.assertEqual(state(play(*calls, render(0, 2000, 3, 2))), state(play(*calls)))


class Fractions(Case):
    def test_least_terms(self):
        self.assertEqual(least_terms(0, 77), [0, 1])
        self.assertEqual(least_terms(-6, 4), [-3, 2])
        for upper in range(-40, 41):
            for lower in range(1, 31):
                self.assertEqual(least_terms(upper, lower), list(Fraction(upper, lower).as_integer_ratio()))

    def test_times_in_other_terms_are_the_same_times(self):
        calls = kept((2, {2000: 4}), (5, {2000: 11}))
        for n, d in ((2, 1), (3, 1), (7, 2), (10, 3), (5, 1), (6, 1), (8, 1), (9, 1)):
            told = {tuple(last(*calls, render(0, 2000, n * times, d * times))) for times in (1, 2, 3, 10, 333)}
            self.assertEqual(len(told), 1, (n, d))

    def test_every_time_of_a_few_worlds(self):
        worlds = {2: {1: 3, 2: 9, 4: -1}, 3: {1: 8, 3: 2, 4: -1}, 7: {1: -5, 2: 1, 3: 0}, 9: {2: 6, 3: 7}}
        for many in range(5):
            seen = dict(list(worlds.items())[:many])
            for key in (1, 2, 3, 4, 5):
                for d in (1, 2, 3, 7):
                    for n in range(0, 14 * d):
                        told = shown_value(seen, key, n, d)
                        self.assertEqual(told and Fraction(*told), shown_by_words(seen, key, Fraction(n, d)),
                                         (many, key, n, d))


def shown_by_words(worlds, key, t):
    """What's shown, sentence by sentence."""
    upto, beyond = [at for at in worlds if at <= t], [at for at in worlds if at > t]
    if not worlds:
        return None
    if upto and beyond:
        t1, t2 = max(upto), min(beyond)
    elif beyond:
        return worlds[min(beyond)].get(key)
    elif len(upto) == 1:
        return worlds[upto[0]].get(key)
    else:
        t1, t2 = sorted(upto)[-2:]
        t = min(t, t2 + 3)
    if key in worlds[t1] and key in worlds[t2]:
        return worlds[t1][key] + (worlds[t2][key] - worlds[t1][key]) * (t - t1) / (t2 - t1)
    return {**worlds[t1], **worlds[t2]}.get(key)
