"""packet and counts: what was made stays as it was, and how much of all there is."""

from tests.helper import (
    BIG, Case, body, client, counts, deliver, exchange, last, packet, play, push, put, run, send, state, tick, unset,
    up,
)

ONE = [body(0), client(0, 0)]
NEW = [0, 0, 0, 1, 500, 1, 0, 0, 1, 500, 2, 0, 0, 1, 0, 3, 0, 0, 1, 0, 1000, 0, 0, 1, 0]


class Packet(Case):
    def test_no_such_packet(self):
        self.refused([], packet(0), -1)
        before = ONE + [tick(), send(0), up(0)]
        for p in (-1, -2, 2, 3, 200, BIG, -BIG):
            self.refused(before, packet(p), -1)
        self.assertEqual([answer[0] for answer in run(*before, packet(0), packet(1))[-2:]], [0, 0])

    def test_down_the_first(self):
        self.assertEqual(last(*ONE, tick(), send(0), packet(0)), [0, 0, 0, 1, 0, 5] + NEW)

    def test_down_of_each_kind_of_change(self):
        calls = [body(2, 1, 2, 3, 4), client(7, 2), put(2000, 5), put(2001, 0), put(2003, 9), put(2004, 8), tick()]
        calls += [send(7), deliver(0), up(7), deliver(1), put(2000, -6), unset(2001), put(2002, 0), unset(2003)]
        calls += [put(2003, 9), put(2004, 0), put(2063, 1000000), put(8, 0), tick(), send(7)]
        self.assertEqual(last(*calls, packet(2)), [
            0, 0, 7, 2, 1, 6, 8, 1, 1, 1, 0, 2000, 1, 5, 1, -6, 2001, 1, 0, 0, 0, 2002, 0, 0, 1, 0, 2004, 1, 8, 1, 0,
            2063, 0, 0, 1, 1000000])

    def test_down_without_changes(self):
        self.assertEqual(last(tick(), *ONE, send(0), packet(0)), [0, 0, 0, 1, 0, 0])
        calls = ONE + [tick(), send(0), deliver(0), up(0), deliver(1), send(0), tick(), send(0)]
        self.assertEqual(run(*calls, packet(2), packet(3))[-2:], [[0, 0, 0, 1, 1, 0], [0, 0, 0, 2, 1, 0]])

    def test_up(self):
        self.assertEqual(last(*ONE, up(0), packet(0)), [0, 1, 0, 0, 0])
        calls = ONE + [push(0, 1, -2), push(0, 0, 3), push(0, -3, 0), up(0)]
        self.assertEqual(last(*calls, packet(0)), [0, 1, 0, 0, 3, 1, 1, -2, 2, 0, 3, 3, -3, 0])

    def test_up_with_a_tick_and_some_inputs_forgotten(self):
        calls = [body(4), client(9, 4)] + [push(9, a, 0) for a in (1, 2, 3, -1, -2, -3)]
        calls += [up(9), deliver(0), tick(), tick(), send(9), tick(), send(9), deliver(1), push(9, 0, 1), up(9)]
        self.assertEqual(last(*calls, packet(3)), [0, 1, 9, 2, 1, 7, 0, 1])
        calls = [body(4), client(9, 4)] + [push(9, a, 0) for a in (1, 2, 3, -1, -2, -3)]
        calls += [up(9), deliver(0), tick(), send(9), deliver(1), up(9)]
        self.assertEqual(last(*calls, packet(2)), [0, 1, 9, 1, 2, 5, -2, 0, 6, -3, 0])

    def test_up_with_64_inputs(self):
        calls = ONE + [push(0, 1, 0) for count in range(65)] + [up(0)]
        inputs = [n for count in range(64) for n in (count + 1, 1, 0)]
        self.assertEqual(last(*calls, packet(0)), [0, 1, 0, 0, 64] + inputs)

    def test_numbers_and_clients(self):
        calls = ONE + [body(1), client(8, 1), push(8, 2, 2), tick(), up(8), send(8), up(0), send(0)]
        told = run(*calls, *[packet(p) for p in range(4)])[-4:]
        self.assertEqual([answer[:4] for answer in told], [[0, 1, 8, 0], [0, 0, 8, 1], [0, 1, 0, 0], [0, 0, 0, 1]])
        self.assertEqual(told[0], [0, 1, 8, 0, 1, 1, 2, 2])

    def test_long_after_it_was_made(self):
        calls = ONE + [push(0, 1, 2), put(2000, 3), tick(), send(0), up(0)]
        wanted = run(*calls, packet(0), packet(1))[-2:]
        self.assertEqual(wanted, [[0, 0, 0, 1, 0, 6] + NEW + [2000, 0, 0, 1, 3], [0, 1, 0, 0, 1, 1, 1, 2]])
        calls += [deliver(1), deliver(0), put(2000, 4), put(0, 9), push(0, -1, -1)]
        for count in range(70):
            calls += [tick(), send(0), deliver(2 * count + 2), up(0)]
            if count % 10 == 0:
                calls += [deliver(2 * count + 3), unset(2000), put(2000, -count)]
        self.assertEqual(run(*calls, packet(0), packet(1))[-2:], wanted)
        self.assertEqual(run(*calls, deliver(0), deliver(1), packet(0), packet(1))[-2:], wanted)
        # The middle ones, too, are as they were when they were made.
        for p in (2, 3, 40, 41, 63):
            made = [place for place, call in enumerate(calls) if call[0] in (5, 6)][p]
            self.assertEqual(last(*calls, packet(p)), last(*calls[:made + 1], packet(p)), p)

    def test_its_base_was_sent_long_ago(self):
        calls = ONE + [put(2000, 1), tick(), send(0), deliver(0), up(0), deliver(1), put(2000, 2)] + [tick()] * 100
        self.assertEqual(last(*calls, send(0), packet(2)), [0, 0, 0, 101, 1, 1, 2000, 1, 1, 1, 2])

    def test_changes_told_are_those_counted(self):
        calls = ONE + [put(2000, 1), tick(), send(0), deliver(0), up(0), deliver(1)]
        calls += [unset(2000), body(1), tick(), send(0)]
        sent = last(*calls)
        told = last(*calls, packet(2))
        self.assertEqual((sent[2:], len(told)), (told[3:6], 6 + 5 * told[5]))

    def test_asking_changes_nothing(self):
        calls = ONE + [push(0), tick(), send(0), up(0)]
        self.assertEqual(state(play(*calls, packet(0), packet(1), counts())), state(play(*calls)))


class Counts(Case):
    def test_at_first(self):
        self.assertEqual(last(counts()), [0, 0, 0, 0, 0])

    def test_bodies_and_keys(self):
        calls = [body(3), put(2000, 1), put(2001, 0)]
        self.assertEqual(last(*calls, counts()), [0, 0, 7, 0, 0])
        self.assertEqual(last(*calls, unset(2000), put(2001, 5), put(12, 1), counts()), [0, 0, 6, 0, 0])
        self.assertEqual(last(*calls, tick(), put(2005, 1), counts()), [0, 1, 8, 0, 1])

    def test_clients_in_the_order_in_which_they_came(self):
        calls = [body(b) for b in (5, 1, 7, 0)] + [client(9, 1), client(0, 7), client(4, 5), client(3, 0)]
        self.assertEqual(last(*calls, counts()), [0, 0, 20, 0, 0, 9, 1, 0, 0, 0, 7, 0, 0, 4, 5, 0, 0, 3, 0, 0, 0])

    def test_packets_of_both_kinds_and_refused_ones(self):
        calls = ONE + [send(0), up(0), up(1), tick(), send(0), send(0), send(5), deliver(0), deliver(9)]
        self.assertEqual(last(*calls, counts()), [0, 1, 5, 3, 1, 0, 0, 0, 1])
        self.assertEqual(last(*ONE, *[up(0)] * 201, counts()), [0, 0, 5, 200, 0, 0, 0, 0, 0])

    def test_kept_ticks(self):
        for many in (1, 2, 63, 64, 65, 100, 150):
            self.assertEqual(last(*[tick()] * many, counts()), [0, many, 0, 0, min(many, 64)])

    def test_what_a_client_is_known_to_have(self):
        calls = ONE + [body(1), client(1, 1), tick(), send(0), send(1), tick(), send(1), deliver(2), deliver(0)]
        self.assertEqual(last(*calls, counts())[5:], [0, 0, 0, 1, 1, 1, 0, 2])
        calls += [up(1), up(0)]
        self.assertEqual(last(*calls, counts())[5:], [0, 0, 0, 1, 1, 1, 0, 2])
        self.assertEqual(last(*calls, deliver(3), counts())[5:], [0, 0, 0, 1, 1, 1, 2, 2])
        self.assertEqual(last(*calls, deliver(4), counts())[5:], [0, 0, 1, 1, 1, 1, 0, 2])

    def test_sent_ticks_kept(self):
        calls = list(ONE) + [body(2), client(2, 2)]
        for many in range(1, 31):
            calls += [tick(), send(0), send(0)] + ([send(2)] if many % 4 == 0 else [])
            self.assertEqual(last(*calls, counts()),
                             [0, many, 10, 2 * many + many // 4, many, 0, 0, 0, min(many, 16), 2, 2, 0, many // 4])

    def test_sent_ticks_stay_however_long_ago(self):
        calls = ONE + [tick(), send(0), deliver(0), up(0), deliver(1)] + [tick()] * 149
        self.assertEqual(last(*calls, counts()), [0, 150, 5, 2, 64, 0, 0, 1, 1])

    def test_a_known_tick_that_is_not_kept_any_more(self):
        calls = ONE + [tick(), send(0), deliver(0), up(0), deliver(1)]
        calls += [call for count in range(20) for call in (tick(), send(0))]
        told = run(*calls, counts(), send(0))
        self.assertEqual(told[-2:], [[0, 21, 5, 22, 21, 0, 0, 1, 16], [0, 22, 21, 0, 5]])

    def test_clocks_do_not_count(self):
        self.assertEqual(last(*ONE, exchange(0, 1, 2, 3), counts()), [0, 0, 5, 0, 0, 0, 0, 0, 0])
