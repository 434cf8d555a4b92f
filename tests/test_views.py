"""base, guess, ring: what a client has of what came, whatever the net does."""

from tests.helper import (
    BIG, Case, base, body, client, deliver, guess, last, play, push, put, render, ring, run, send, shown, state, tick,
    unset, up, world,
)

ONE = [body(0), client(0, 0)]
NO_CLIENTS = (-1, 1, 9, 10, BIG, -BIG)


def told_world(calls):
    return last(*calls, world())


class Base(Case):
    def test_nothing_came(self):
        self.assertEqual(last(*ONE, base(0)), [0, 0, 0])
        self.assertEqual(last(*ONE, put(2000, 1), tick(), send(0), base(0)), [0, 0, 0])

    def test_no_such_client(self):
        self.refused([], base(0), -1)
        for c in NO_CLIENTS:
            self.refused(ONE + [tick(), send(0), deliver(0)], base(c), -1)

    def test_the_world_that_came(self):
        calls = [body(2, 1, 2, 3, -4), client(6, 2), put(2063, -7), put(2000, 0), tick(), send(6), deliver(0)]
        told = last(*calls, base(6))
        self.assertEqual(told, [0, 1, 7, 8, 1, 9, 2, 10, 3, 11, -4, 1002, 0, 2000, 0, 2063, -7])

    def test_a_world_without_keys(self):
        self.assertEqual(last(tick(), tick(), *ONE, send(0), deliver(0), base(0)), [0, 2, 0])

    def test_what_was_set_behind_the_tick_is_not_in_it(self):
        calls = ONE + [put(2000, 1), put(2001, 1), tick()]
        wanted = told_world(calls)
        calls += [put(2000, 2), unset(2001), put(0, 7), send(0), put(2002, 1), deliver(0)]
        self.assertEqual(last(*calls, base(0)), wanted)

    def test_keys_come_and_go(self):
        calls = ONE + [put(2000, 1), put(2001, 1), tick(), send(0), deliver(0), up(0), deliver(1)]
        calls += [unset(2000), put(2002, 5), put(2001, 0), tick(), send(0)]
        self.assertEqual(shown(last(*calls, base(0)))[2000], 1)
        told = last(*calls, deliver(2), base(0))
        self.assertEqual(shown(told), {0: 500, 1: 500, 2: 0, 3: 0, 1000: 0, 2001: 0, 2002: 5})
        self.assertEqual(told, told_world(calls))

    def test_each_client_has_its_own(self):
        calls = ONE + [body(1), client(1, 1), tick(), send(0), tick(), send(1), deliver(1)]
        self.assertEqual(run(*calls, base(0), base(1))[-2:], [[0, 0, 0], told_world(calls)])

    def test_asking_changes_nothing(self):
        calls = ONE + [push(0), tick(), send(0), deliver(0)]
        self.assertEqual(state(play(*calls, base(0), guess(0), ring(0), render(0, 0, 1))), state(play(*calls)))


class BadNet(Case):
    """Ten ticks, each with another world and a packet down; they come in all sorts of orders."""

    CALLS = ONE + [call for count in range(1, 11) for call in (
        put(2000, count), put(2000 + count % 3, -count), push(0, 1, -1), up(0), deliver(2 * count - 2), tick(),
        send(0))]
    ORDERS = (
        (0, 1, 2, 3, 4, 5, 6, 7, 8, 9), (9,), (4, 4, 4), (9, 8, 7, 6), (0, 5, 3, 7, 7, 1, 8), (2, 0, 2, 9, 9, 1),
    )

    def worlds(self):
        places = [place for place, call in enumerate(self.CALLS) if call == tick()]
        return [told_world(self.CALLS[:place + 1]) for place in places]

    def test_base_and_ring(self):
        worlds = self.worlds()
        self.assertEqual(len({tuple(seen) for seen in worlds}), 10)
        for order in self.ORDERS:
            calls, kept = list(self.CALLS), []
            for place in order:
                calls.append(deliver(2 * place + 1))
                if not kept or place > kept[0]:
                    kept.insert(0, place)
                self.assertEqual(last(*calls, base(0)), worlds[kept[0]], order)
                self.assertEqual(last(*calls, ring(0)), [0] + [number + 1 for number in kept], order)

    def test_guess(self):
        # Nobody else sets the body: whatever came of the worlds, it's what all ten inputs make of it.
        for order in self.ORDERS:
            calls = list(self.CALLS)
            for place in order:
                calls.append(deliver(2 * place + 1))
                told = last(*calls, guess(0))
                self.assertEqual(told[2:], [500 + 55, 500 - 55, 10, -10, 10], order)
                followed = shown(last(*calls, base(0)))[1000]
                self.assertEqual(told[:2], [0, 10 - followed], order)

    def test_packets_with_several_bases(self):
        calls = self.CALLS + [deliver(3), up(0), deliver(20), put(2005, 1), tick(), send(0)]
        calls += [deliver(11), up(0), deliver(22), unset(2000), tick(), send(0)]
        told = run(*calls)
        self.assertEqual([told[-7], told[-1]], [[0, 21, 11, 2, 9], [0, 23, 12, 6, 9]])
        for order in ((21, 23), (23, 21), (23,), (19, 23, 21), (21, 21, 23, 23)):
            seen = last(*calls, *[deliver(p) for p in order], base(0))
            self.assertEqual(seen, told_world(calls), order)
        self.assertEqual(last(*calls, deliver(19), deliver(21), deliver(23), ring(0)), [0, 12, 11, 10, 6, 2])
        self.assertEqual(last(*calls, deliver(23), deliver(21), ring(0)), [0, 12, 6, 2])


class Guess(Case):
    def test_nothing_came(self):
        self.assertEqual(last(*ONE, guess(0)), [0, 0, 0, 0, 0, 0, 0])
        self.assertEqual(last(*ONE, push(0, 1, 1), push(0), tick(), send(0), guess(0)), [0, 2, 0, 0, 0, 0, 0])

    def test_no_such_client(self):
        self.refused([], guess(0), -1)
        for c in NO_CLIENTS:
            self.refused(ONE + [push(0), tick(), send(0), deliver(0)], guess(c), -1)

    def test_the_body_is_not_in_the_last_world(self):
        calls = [body(1), put(2000, 1), tick()] + ONE + [push(0, 3, 3), push(0, 1, 0), send(0), deliver(0)]
        self.assertEqual(last(*calls, guess(0)), [0, 2, 0, 0, 0, 0, 0])
        self.assertEqual(shown(last(*calls, base(0))), {4: 500, 5: 500, 6: 0, 7: 0, 1001: 0, 2000: 1})
        calls += [tick(), send(0), deliver(1)]
        self.assertEqual(last(*calls, guess(0)), [0, 2, 507, 506, 4, 3, 2])

    def test_without_inputs_it_is_as_it_came(self):
        calls = [body(3, 7, 8, -9, 10), client(5, 3), tick(), send(5), deliver(0)]
        self.assertEqual(last(*calls, guess(5)), [0, 0, 7, 8, -9, 10, 0])

    def test_all_inputs_in_order(self):
        calls = ONE + [tick(), send(0), deliver(0), push(0, 3, 0), push(0, -3, 1), push(0, 2, 2)]
        self.assertEqual([answer for call, answer in zip(calls, run(*calls)) if call[0] == 8], [[0, 1], [0, 2], [0, 3]])
        self.assertEqual(last(*calls, guess(0)), [0, 3, 505, 504, 2, 3, 3])

    def test_walls(self):
        calls = [body(0, 1, 999, -20, 20), client(0, 0), tick(), send(0), deliver(0), push(0, -1, 1)]
        self.assertEqual(last(*calls, guess(0)), [0, 1, 19, 981, 20, -20, 1])
        self.assertEqual(last(*calls, push(0, -3, 3), guess(0)), [0, 2, 36, 964, 17, -17, 2])

    def test_other_bodies_stay(self):
        calls = ONE + [body(1), client(1, 1), push(0, 1, 1), push(1, -1, 0), push(1, -1, 0), tick()]
        calls += [send(0), send(1), deliver(0), deliver(1)]
        self.assertEqual(run(*calls, guess(0), guess(1))[-2:],
                         [[0, 1, 501, 501, 1, 1, 1], [0, 2, 497, 500, -2, 0, 2]])

    def test_it_is_the_same_ahead_of_and_behind_being_followed(self):
        calls = ONE + [tick(), send(0), deliver(0)] + [push(0, 1, -1) for count in range(7)] + [up(0)]
        wanted = [528, 472, 7, -7, 7]
        self.assertEqual(last(*calls, guess(0)), [0, 7] + wanted)
        calls += [deliver(1), tick(), send(0)]
        self.assertEqual(last(*calls, guess(0)), [0, 7] + wanted)
        calls += [deliver(2)]
        self.assertEqual(last(*calls, guess(0)), [0, 3] + wanted)
        calls += [tick(), send(0), deliver(3)]
        self.assertEqual(last(*calls, guess(0)), [0, 0] + wanted)
        self.assertEqual(last(*calls, deliver(2), deliver(0), guess(0)), [0, 0] + wanted)

    def test_it_is_put_right_by_what_comes(self):
        calls = ONE + [tick(), send(0), deliver(0), push(0, 1, 0), put(0, 100), put(3, -5), tick(), send(0)]
        self.assertEqual(last(*calls, guess(0)), [0, 1, 501, 500, 1, 0, 1])
        self.assertEqual(last(*calls, deliver(1), guess(0)), [0, 1, 101, 495, 1, -5, 1])

    def test_what_is_set_at_the_server_is_not_guessed(self):
        calls = ONE + [tick(), send(0), deliver(0), put(0, 100), tick(), put(1, 100)]
        self.assertEqual(last(*calls, guess(0)), [0, 0, 500, 500, 0, 0, 0])

    def test_64_inputs(self):
        calls = ONE + [tick(), send(0), deliver(0)] + [push(0, 0, 0) for count in range(65)]
        self.assertEqual(last(*calls, guess(0)), [0, 64, 500, 500, 0, 0, 64])

    def test_a_guess_leaves_the_world_that_came(self):
        calls = ONE + [tick(), send(0), deliver(0), push(0, 3, 3), guess(0), guess(0)]
        self.assertEqual(run(*calls, base(0), render(0, 0, 1))[-4:], [
            [0, 1, 503, 503, 3, 3, 1], [0, 1, 503, 503, 3, 3, 1],
            [0, 1, 5, 0, 500, 1, 500, 2, 0, 3, 0, 1000, 0], [0, 500, 1]])
        self.assertEqual(shown(last(*calls, world())), {0: 500, 1: 500, 2: 0, 3: 0, 1000: 0})


class Ring(Case):
    def test_nothing_came(self):
        self.assertEqual(last(*ONE, ring(0)), [0])
        self.assertEqual(last(*ONE, tick(), send(0), ring(0)), [0])

    def test_no_such_client(self):
        self.refused([], ring(0), -1)
        for c in NO_CLIENTS:
            self.refused(ONE + [tick(), send(0), deliver(0)], ring(c), -1)

    def test_the_last_one_first(self):
        calls = ONE + [tick(), send(0), tick(), tick(), send(0), tick(), send(0), deliver(0)]
        self.assertEqual(last(*calls, ring(0)), [0, 1])
        self.assertEqual(last(*calls, deliver(1), ring(0)), [0, 3, 1])
        self.assertEqual(last(*calls, deliver(1), deliver(2), ring(0)), [0, 4, 3, 1])
        self.assertEqual(last(*calls, deliver(2), deliver(1), ring(0)), [0, 4, 1])

    def test_a_packet_that_comes_twice_and_a_tick_sent_twice(self):
        calls = ONE + [tick(), send(0), send(0), deliver(0), deliver(0), deliver(1), tick(), send(0), deliver(2)]
        self.assertEqual(last(*calls, deliver(1), deliver(2), ring(0)), [0, 2, 1])

    def test_sixteen_at_most(self):
        calls = list(ONE)
        for many in range(1, 40):
            calls += [put(2000, many), tick(), send(0), deliver(many - 1)]
            self.assertEqual(last(*calls, ring(0)), [0] + list(range(many, max(0, many - 16), -1)))
        self.assertEqual(last(*calls, base(0)), told_world(calls))
        self.assertEqual(last(*calls, deliver(20), ring(0)), [0] + list(range(39, 23, -1)))

    def test_ticks_that_did_not_come_take_no_place(self):
        calls = ONE + [call for count in range(40) for call in (tick(), send(0))]
        calls += [deliver(place) for place in range(0, 40, 3)]
        self.assertEqual(last(*calls, ring(0)), [0] + list(range(40, 0, -3)))
