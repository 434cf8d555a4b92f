"""exchange, offset, drift: what a client knows of the difference between the clocks."""

import random
from fractions import Fraction

from tests.helper import BIG, Case, body, client, deliver, drift, exchange, last, offset, play, run, send, state, tick

MOST = 1000000000
ONE = [body(0), client(0, 0)]
TWO = ONE + [body(1), client(9, 1)]


class Exchange(Case):
    def test_the_first_one(self):
        self.taken(ONE, exchange(0, 10, 100, 20), [0, 1, 80, 1, 90, 1])
        self.taken(ONE, exchange(0, 10, 5, 20), [0, 1, -15, 1, -5, 1])
        self.taken(ONE, exchange(0, 10, 15, 20), [0, 1, -5, 1, 5, 1])
        self.taken(ONE, exchange(0, 10, 10, 20), [0, 1, -10, 1, 0, 1])
        self.taken(ONE, exchange(0, 7, 7, 7), [0, 1, 0, 1, 0, 1])

    def test_the_first_one_with_drift(self):
        self.taken(ONE + [drift(500)], exchange(0, 10, 100, 20), [0, 1, 80, 1, 95, 1])
        self.taken(ONE + [drift(1)], exchange(0, 10, 100, 20), [0, 1, 80, 1, 9001, 100])
        self.taken(ONE + [drift(100)], exchange(0, 10, 5, 15), [0, 1, -10, 1, -9, 2])
        self.taken(ONE + [drift(500)], exchange(0, 10, 5, 20), [0, 1, -15, 1, 0, 1])
        self.taken(ONE + [drift(333)], exchange(0, 10, 5, 10), [0, 1, -5, 1, -5, 1])

    def test_edges(self):
        for a, s, b, *wanted in ((0, 0, 0, 0, 0), (MOST, 0, MOST, -MOST, -MOST), (0, MOST, 0, MOST, MOST),
                                 (0, 0, MOST, -MOST, 0), (0, MOST, MOST, 0, MOST), (MOST, MOST, MOST, 0, 0)):
            self.taken(ONE, exchange(0, a, s, b), [0, 1, wanted[0], 1, wanted[1], 1])
        self.taken(ONE + [drift(500)], exchange(0, 0, MOST, MOST), [0, 1, 0, 1, 1500000000, 1])
        self.taken(ONE + [drift(499)], exchange(0, 0, MOST, MOST - 1), [0, 1, 1, 1, 1498999999501, 1000])

    def test_beyond_the_edges(self):
        for a, s, b in ((-1, 5, 5), (5, -1, 5), (5, 5, -1), (MOST + 1, 5, MOST + 1), (5, MOST + 1, 5),
                        (5, 5, MOST + 1), (5, 5, 4), (-BIG, 5, 5), (5, BIG, 5), (5, 5, BIG), (MOST, 5, 0)):
            self.refused(ONE, exchange(0, a, s, b), -2)
            self.refused(ONE + [exchange(0, 1, 2, 3)], exchange(0, a, s, b), -2)

    def test_not_ahead_of_what_is_known(self):
        known = ONE + [exchange(0, 10, 100, 20)]
        self.refused(known, exchange(0, 5, 100, 19), -2)
        self.refused(known, exchange(0, 19, 100, 19), -2)
        self.taken(known, exchange(0, 5, 100, 20), [0, 1, 80, 1, 90, 1])
        self.taken(known, exchange(0, 20, 105, 20), [0, 1, 85, 1, 85, 1])
        # Known is what the last one said, at its time, also if the old was forgotten or nothing was narrowed.
        self.refused(known + [exchange(0, 30, 500, 40)], exchange(0, 10, 100, 39), -2)
        self.refused(known + [exchange(0, 0, 100, 40)], exchange(0, 10, 100, 39), -2)
        self.refused(known + [exchange(0, 5, 100, 40), exchange(0, 10, 100, 39)], exchange(0, 0, 0, 39), -2)

    def test_no_such_client(self):
        self.refused([], exchange(0, 1, 2, 3), -1)
        for c in (-1, 1, 8, 10, BIG, -BIG):
            self.refused(TWO, exchange(c, 1, 2, 3), -1)

    def test_the_refusal_told_first(self):
        self.refused(ONE, exchange(1, -1, 2, 3), -1)
        self.refused(ONE, exchange(1, 3, 2, 1), -1)

    def test_narrowed_from_below(self):
        self.assertEqual(run(*ONE, exchange(0, 10, 100, 30), exchange(0, 20, 115, 30))[2:],
                         [[0, 1, 70, 1, 90, 1], [0, 1, 85, 1, 90, 1]])

    def test_narrowed_from_above(self):
        self.assertEqual(run(*ONE, exchange(0, 10, 100, 30), exchange(0, 35, 110, 45))[2:],
                         [[0, 1, 70, 1, 90, 1], [0, 1, 70, 1, 75, 1]])

    def test_narrowed_from_both_sides_and_from_neither(self):
        self.assertEqual(run(*ONE, exchange(0, 10, 100, 30), exchange(0, 40, 120, 41), exchange(0, 0, 100, 100))[2:],
                         [[0, 1, 70, 1, 90, 1], [0, 1, 79, 1, 80, 1], [0, 1, 79, 1, 80, 1]])

    def test_bounds_that_meet(self):
        self.assertEqual(run(*ONE, exchange(0, 10, 100, 30), exchange(0, 30, 130, 40))[3], [0, 1, 90, 1, 90, 1])
        self.assertEqual(run(*ONE, exchange(0, 10, 100, 30), exchange(0, 30, 100, 40))[3], [0, 1, 70, 1, 70, 1])

    def test_bounds_that_cannot_both_be_true(self):
        self.assertEqual(run(*ONE, exchange(0, 10, 100, 30), exchange(0, 30, 131, 40))[3], [0, 0, 91, 1, 101, 1])
        self.assertEqual(run(*ONE, exchange(0, 10, 100, 30), exchange(0, 30, 99, 40))[3], [0, 0, 59, 1, 69, 1])

    def test_what_is_forgotten_stays_so(self):
        told = run(*ONE, exchange(0, 10, 100, 30), exchange(0, 30, 131, 40), exchange(0, 30, 121, 40), offset(0, 50))
        self.assertEqual(told[3:], [[0, 0, 91, 1, 101, 1], [0, 1, 91, 1, 91, 1], [0, 91, 1, 91, 1]])

    def test_taken_later_with_drift(self):
        # Known at 30: 70 and 90 + 2; at 130 it's 60 and 102.
        calls = ONE + [drift(100), exchange(0, 10, 100, 30)]
        self.assertEqual(last(*calls), [0, 1, 70, 1, 92, 1])
        self.taken(calls, exchange(0, 0, 150, 130), [0, 1, 60, 1, 102, 1])
        self.taken(calls, exchange(0, 120, 200, 130), [0, 1, 70, 1, 81, 1])
        self.taken(calls, exchange(0, 130, 232, 130), [0, 1, 102, 1, 102, 1])
        self.taken(calls, exchange(0, 130, 233, 130), [0, 0, 103, 1, 103, 1])
        self.taken(calls, exchange(0, 130, 190, 130), [0, 1, 60, 1, 60, 1])
        self.taken(calls, exchange(0, 130, 189, 130), [0, 0, 59, 1, 59, 1])

    def test_broken_bounds(self):
        calls = ONE + [drift(3), exchange(0, 10, 100, 17)]
        self.assertEqual(last(*calls), [0, 1, 83, 1, 90021, 1000])
        # At 30: 83 less 39 / 1000, and 90.021 and 39 / 1000.
        self.taken(calls, exchange(0, 0, 84, 30), [0, 1, 82961, 1000, 8409, 100])
        self.taken(calls, exchange(0, 0, 115, 30), [0, 1, 85, 1, 4503, 50])
        self.taken(calls, exchange(0, 30, 113, 30), [0, 1, 83, 1, 83, 1])
        self.taken(calls, exchange(0, 30, 112, 30), [0, 0, 82, 1, 82, 1])
        self.taken(calls, exchange(0, 30, 120, 30), [0, 1, 90, 1, 90, 1])
        self.taken(calls, exchange(0, 30, 121, 30), [0, 0, 91, 1, 91, 1])

    def test_gained_from_the_last_time_on(self):
        # Bounds are taken later step by step: 100 in all, not more.
        calls = ONE + [drift(10), exchange(0, 0, 500, 0)]
        for b in (10, 50, 99):
            calls += [exchange(0, 0, 500, b)]
        self.assertEqual(last(*calls, offset(0, 100)), [0, 499, 1, 501, 1])

    def test_each_client_knows_its_own(self):
        told = run(*TWO, exchange(0, 10, 100, 20), exchange(9, 5, 0, 6), exchange(0, 10, 100, 20), offset(9, 6))
        self.assertEqual(told[4:], [
            [0, 1, 80, 1, 90, 1], [0, 1, -6, 1, -5, 1], [0, 1, 80, 1, 90, 1], [0, -6, 1, -5, 1]])


class Offset(Case):
    KNOWN = ONE + [exchange(0, 10, 100, 20)]
    DRIFTING = ONE + [drift(30), exchange(0, 10, 100, 20)]

    def test_without_drift_it_stays(self):
        for t in (20, 21, 5000, MOST):
            self.taken(self.KNOWN, offset(0, t), [0, 80, 1, 90, 1])

    def test_with_drift_it_widens(self):
        self.assertEqual(last(*self.DRIFTING), [0, 1, 80, 1, 903, 10])
        for t, *wanted in ((20, 80, 1, 903, 10), (21, 7997, 100, 9033, 100), (30, 797, 10, 453, 5),
                           (120, 77, 1, 933, 10), (2687, -1, 100, 17031, 100),
                           (1020, 50, 1, 1203, 10), (MOST, -149999597, 5, 300000897, 10)):
            self.taken(self.DRIFTING, offset(0, t), [0] + wanted)

    def test_the_ends(self):
        calls = ONE + [drift(500), exchange(0, 0, 0, 0)]
        self.taken(calls, offset(0, MOST), [0, -500000000, 1, 500000000, 1])
        self.taken(calls, offset(0, 0), [0, 0, 1, 0, 1])

    def test_beyond_the_edges(self):
        for calls in (self.KNOWN, self.DRIFTING):
            for t in (19, 10, 0, -1, MOST + 1, BIG, -BIG):
                self.refused(calls, offset(0, t), -2)

    def test_it_knows_nothing(self):
        for t in (0, 20, MOST):
            self.refused(ONE, offset(0, t), -9)
            self.refused(TWO + [exchange(0, 10, 100, 20)], offset(9, t), -9)
        self.refused(ONE + [exchange(0, 10, 100, 9), exchange(0, -1, 0, 0)], offset(0, 20), -9)
        self.refused(ONE + [tick(), send(0), deliver(0)], offset(0, 20), -9)

    def test_no_such_client(self):
        self.refused([], offset(0, 20), -1)
        for c in (-1, 1, 9, 10, BIG, -BIG):
            self.refused(self.KNOWN, offset(c, 20), -1)

    def test_the_refusal_told_first(self):
        self.refused(self.KNOWN, offset(1, -1), -1)
        self.refused(ONE, offset(1, 20), -1)
        self.refused(ONE, offset(0, -1), -9)
        self.refused(ONE, offset(0, MOST + 1), -9)

    def test_asking_changes_nothing(self):
        calls = self.DRIFTING + [offset(0, 1000)]
        self.assertEqual(state(play(*calls)), state(play(*self.DRIFTING)))
        self.taken(calls, offset(0, 20), [0, 80, 1, 903, 10])
        self.taken(calls, exchange(0, 10, 100, 20), [0, 1, 80, 1, 903, 10])


class Drift(Case):
    def test_edges(self):
        for d in (0, 1, 499, 500):
            self.taken([], drift(d), [0])
            self.taken(TWO, drift(d), [0])

    def test_beyond_the_edges(self):
        for d in (-1, 501, BIG, -BIG):
            self.refused([], drift(d), -2)
            self.refused(TWO + [drift(20)], drift(d), -2)

    def test_it_is_0_at_first(self):
        self.assertEqual(last(*ONE, exchange(0, 0, 5, 10), offset(0, 500)), [0, -5, 1, 5, 1])

    def test_the_last_one_counts(self):
        self.assertEqual(last(*ONE, drift(100), drift(200), exchange(0, 0, 5, 10)), [0, 1, -5, 1, 7, 1])
        self.assertEqual(last(*ONE, drift(100), drift(0), exchange(0, 0, 5, 10)), [0, 1, -5, 1, 5, 1])

    def test_once_a_client_knows_something(self):
        for c in (0, 9):
            known = TWO + [drift(30), exchange(c, 10, 100, 20)]
            for d in (0, 30, 500):
                self.refused(known, drift(d), -3)
            self.taken(known + [drift(500)], offset(c, 120), [0, 77, 1, 933, 10])
        self.refused(TWO + [exchange(9, 1, 2, 3), exchange(9, 1, 900, 3)], drift(1), -3)

    def test_a_refused_exchange_is_nothing_known(self):
        self.taken(TWO + [exchange(0, 10, 100, 9), exchange(5, 1, 2, 3)], drift(4), [0])

    def test_the_refusal_told_first(self):
        self.refused(ONE + [exchange(0, 1, 2, 3)], drift(501), -2)
        self.refused(ONE + [exchange(0, 1, 2, 3)], drift(-1), -2)


class FourthPromise(Case):
    """The server's clock gains or loses on the client's, no more than the drift; times are thousands, so s is whole."""

    def test_the_true_difference_is_within_the_bounds(self):
        narrowed = 0
        for seed in range(80):
            rng = random.Random(seed)
            most = rng.choice((0, 1, 10, 100, 500))
            # By how many the clocks differ, at the client's times 0, 1000, 2000 ...
            ahead = [rng.randint(300000, 500000)]
            way = rng.choice((most, -most, None))
            for step in range(299):
                ahead.append(ahead[-1] + (rng.randint(-most, most) if way is None else way))
            calls, wanted = ONE + [drift(most)], []
            at = 0
            for count in range(60):
                at = min(299, at + rng.randint(0, 5))
                if count == 0 or rng.random() < 0.5:
                    a = max(0, at - rng.randint(0, 9))
                    asked = rng.randint(a, at)
                    calls.append(exchange(0, 1000 * a, 1000 * asked + ahead[asked], 1000 * at))
                else:
                    calls.append(offset(0, 1000 * at))
                wanted.append(ahead[at])
            for call, answer, true in zip(calls[3:], run(*calls)[3:], wanted):
                self.assertEqual(answer[:-4], [0, 1] if call[0] == 14 else [0], (seed, call))
                lo, hi = Fraction(*answer[-4:-2]), Fraction(*answer[-2:])
                self.assertTrue(lo <= true <= hi, (seed, call, true, answer))
                narrowed += hi - lo < 1000
        self.assertGreater(narrowed, 300)
