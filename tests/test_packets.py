"""Packets down and up: bases, what is old, what is forgotten, what a client has then."""

from mirrornet.packets import Down
from mirrornet.worlds import changes_between, keep_world, put_changes
from tests.helper import (
    BIG, Case, body, client, deliver, last, play, push, put, run, send, state, tick, unset, up, world,
)

ONE = [body(0), client(0, 0)]


def fits(world_before, changes):
    return all([world_before.get(key) == was for key, was, now in changes])


class Changes(Case):
    def test_of_each_kind(self):
        before = {1: 5, 2: 6, 2000: 0, 3: 7}
        after = {1: 5, 2: -6, 2001: 0, 3: 7}
        self.assertEqual(changes_between(before, after), [(2, 6, -6), (2000, 0, None), (2001, None, 0)])

    def test_keys_rise_whichever_map_has_them(self):
        self.assertEqual(changes_between({9: 1, 3: 1}, {7: 1, 1: 1, 5: 1}),
                         [(1, None, 1), (3, 1, None), (5, None, 1), (7, None, 1), (9, 1, None)])

    def test_none(self):
        self.assertEqual(changes_between({}, {}), [])
        self.assertEqual(changes_between({2000: 0}, {2000: 0}), [])

    def test_put_to_the_base(self):
        maps = [{}, {1: 0}, {1: 1}, {2: 0}, {1: 0, 2: 1}, {1: 1, 2: 0, 2000: -4}, {2000: 4}]
        for before in maps:
            for after in maps:
                kept = dict(before)
                changes = changes_between(before, after)
                self.assertTrue(fits(before, changes))
                self.assertEqual(put_changes(before, changes), after)
                self.assertEqual(before, kept)

    def test_worlds_kept_are_the_last_ones(self):
        worlds = {}
        for number in (1, 2, 2, 3, 3, 5):
            keep_world(worlds, number, {2000: number}, 3)
        self.assertEqual(worlds, {2: {2000: 2}, 3: {2000: 3}, 5: {2000: 5}})


class Send(Case):
    def test_the_first_has_the_base_0(self):
        self.assertEqual(last(*ONE, tick(), send(0)), [0, 0, 1, 0, 5])
        self.assertEqual(last(*ONE, put(2000, 0), tick(), tick(), send(0)), [0, 0, 2, 0, 6])

    def test_numbers_of_all_packets(self):
        told = run(*ONE, body(1), client(1, 1), tick(), send(0), up(0), send(1), up(1), send(0))
        self.assertEqual([answer[1] for answer in told[5:]], [0, 1, 2, 3, 4])

    def test_the_last_ticks_world_is_sent(self):
        told = run(tick(), *ONE, put(2000, 1), send(0), tick(), put(2001, 1), unset(2000), send(0))
        self.assertEqual((told[4], told[8]), ([0, 0, 1, 0, 0], [0, 1, 2, 0, 6]))
        net = play(tick(), *ONE, put(2000, 1), tick(), put(2001, 1), unset(2000), send(0))
        self.assertEqual(net.packets[0].changes, [(0, None, 500), (1, None, 500), (2, None, 0), (3, None, 0),
                                                  (1000, None, 0), (2000, None, 1)])

    def test_no_such_client(self):
        for c in (-1, 1, 9, 10, BIG, -BIG):
            self.refused(ONE + [tick()], send(c), -1)

    def test_the_tick_is_0(self):
        self.refused(ONE, send(0), -6)

    def test_200_packets(self):
        full = ONE + [tick()] + [send(0), up(0)] * 100
        self.assertEqual(run(*full)[-2:], [[0, 198, 1, 0, 5], [0, 199, 0, 0]])
        self.refused(full, send(0), -4)
        self.refused(full, up(0), -4)
        self.refused(full, deliver(200), -1)
        self.taken(full, deliver(199), [0, 0, 0])
        self.taken(full, deliver(198), [0, 0])

    def test_200_packets_of_one_kind(self):
        downs = ONE + [tick()] + [send(0)] * 199
        self.taken(downs, send(0), [0, 199, 1, 0, 5])
        self.taken(downs, up(0), [0, 199, 0, 0])
        self.refused(downs + [send(0)], up(0), -4)
        ups = ONE + [tick()] + [up(0)] * 199
        self.taken(ups, up(0), [0, 199, 0, 0])
        self.refused(ups + [up(0)], send(0), -4)

    def test_the_refusal_told_first(self):
        full = ONE + [up(0)] * 200
        self.refused(ONE, send(1), -1)
        self.refused(full, send(1), -1)
        self.refused(full, up(1), -1)
        self.refused(full, send(0), -6)
        self.refused(full + [tick()], send(0), -4)

    def test_a_refused_packet_is_not_counted_as_sent(self):
        full = ONE + [tick()] + [send(0)] * 200 + [tick(), send(0)]
        self.assertEqual(list(play(*full).peers[0].sent), [1])


class Up(Case):
    def test_nothing_came_and_nothing_is_made(self):
        self.assertEqual(last(*ONE, up(0)), [0, 0, 0, 0])

    def test_no_such_client(self):
        for c in (-1, 1, 9, 10, BIG, -BIG):
            self.refused(ONE, up(c), -1)

    def test_the_last_tick_that_came(self):
        told = run(*ONE, tick(), send(0), tick(), send(0), up(0), deliver(1), up(0), deliver(0), up(0))
        self.assertEqual([told[6], told[8], told[10]], [[0, 2, 0, 0], [0, 3, 2, 0], [0, 4, 2, 0]])

    def test_all_inputs_that_are_not_forgotten(self):
        calls = ONE + [push(0), push(0), push(0), up(0), deliver(0), push(0), tick(), send(0), up(0), deliver(1), up(0)]
        self.assertEqual(run(*calls)[-3:], [[0, 2, 0, 4], [0, 0], [0, 3, 1, 1]])
        net = play(*calls)
        self.assertEqual([list(net.packets[p].inputs) for p in (0, 2, 3)], [[1, 2, 3], [1, 2, 3, 4], [4]])

    def test_a_packet_stays_as_it_was_made(self):
        calls = ONE + [push(0, 1, 0), up(0), push(0, 1, 0), push(0, 1, 0), deliver(0), tick()]
        self.assertEqual(run(*calls)[-2:], [[0, 0, 1], [0, 1, 0, 1, 0]])


class Deliver(Case):
    def test_no_such_packet(self):
        before = ONE + [tick(), send(0), up(0)]
        for p in (-1, -2, 2, 3, BIG, -BIG):
            self.refused(before, deliver(p), -1)
        self.refused([], deliver(0), -1)

    def test_taken_then_old(self):
        told = run(*ONE, tick(), send(0), send(0), tick(), send(0), deliver(0), deliver(0), deliver(1), deliver(2),
                   deliver(1), deliver(0), deliver(2))
        self.assertEqual(told[7:], [[0, 0], [0, 1], [0, 1], [0, 0], [0, 1], [0, 1], [0, 1]])

    def test_an_old_one_changes_nothing(self):
        calls = ONE + [push(0), up(0), tick(), send(0), deliver(0), tick(), send(0), push(0), deliver(2)]
        for old in (1, 2):
            self.assertEqual(last(*calls, deliver(old)), [0, 1])
            self.assertEqual(state(play(*calls, deliver(old))), state(play(*calls)))

    def test_inputs_followed_in_the_world_that_came_are_forgotten(self):
        calls = ONE + [push(0, 1, 0) for count in range(6)] + [up(0), deliver(0), tick(), send(0), tick(), send(0)]
        self.taken(calls + [deliver(1)], up(0), [0, 3, 1, 2])
        self.taken(calls + [deliver(2)], up(0), [0, 3, 2, 0])
        self.taken(calls + [deliver(2), deliver(1)], up(0), [0, 3, 2, 0])
        self.assertEqual(list(play(*calls, deliver(1)).clients[0].inputs), [5, 6])

    def test_a_world_of_before_the_body(self):
        told = run(tick(), *ONE, push(0), send(0), deliver(0), up(0), tick(), send(0), deliver(2))
        self.assertEqual(told[4:], [[0, 0, 1, 0, 0], [0, 0], [0, 1, 1, 1], [0, 2, 0, 0, 0], [0, 2, 2, 0, 5], [0, 0]])

    def test_another_clients_inputs_stay(self):
        calls = ONE + [body(1), client(1, 1), push(0), push(1), push(1), up(1), deliver(0), tick(), send(0), deliver(1)]
        self.taken(calls, up(0), [0, 2, 1, 1])
        self.taken(calls, up(1), [0, 2, 0, 2])


class Known(Case):
    def test_what_the_client_is_known_to_have(self):
        calls = ONE + [tick(), send(0), up(0), deliver(0), up(0), deliver(1), deliver(2)]
        self.assertEqual(run(*calls)[-2:], [[0, 0, 0], [0, 1, 0]])

    def test_it_never_goes_back(self):
        calls = ONE + [tick(), send(0), deliver(0), up(0), tick(), send(0), deliver(2), up(0)]
        self.assertEqual(run(*calls, deliver(3), deliver(1), deliver(3))[-3:], [[0, 2, 0]] * 3)

    def test_the_base_is_the_known_tick(self):
        calls = ONE + [tick(), send(0), deliver(0), up(0), tick(), send(0), deliver(1), send(0), put(2000, 1), tick()]
        told = run(*calls, send(0))
        self.assertEqual([told[7], told[9], told[12]], [[0, 2, 2, 0, 5], [0, 3, 2, 1, 0], [0, 4, 3, 1, 1]])

    def test_the_same_tick_may_be_its_own_base(self):
        told = run(*ONE, tick(), send(0), deliver(0), up(0), deliver(1), send(0), deliver(2))
        self.assertEqual(told[-2:], [[0, 2, 1, 1, 0], [0, 1]])

    def test_clients_are_known_each_by_its_own(self):
        calls = ONE + [body(1), client(1, 1), tick(), send(0), send(1), deliver(0), up(0), deliver(2), tick()]
        self.assertEqual(run(*calls, send(0), send(1))[-2:], [[0, 3, 2, 1, 0], [0, 4, 2, 0, 10]])


def sent_ticks(many, again=1):
    return [call for count in range(many) for call in [tick()] + [send(0)] * again]


class Sixteen(Case):
    # Packet 0 is of tick 1, packet 1 says that it came.
    KNOWN = ONE + [tick(), send(0), deliver(0), up(0), deliver(1)]

    def test_the_known_tick_is_the_sixteenth_last(self):
        told = run(*self.KNOWN, *sent_ticks(15), tick(), send(0), tick(), send(0))
        self.assertEqual(told[-3], [0, 17, 17, 1, 0])
        self.assertEqual(told[-1], [0, 18, 18, 0, 5])

    def test_a_tick_sent_twice_counts_once(self):
        told = run(*self.KNOWN, *sent_ticks(15, 4), tick(), send(0), send(0))
        self.assertEqual([answer[2:] for answer in told[-2:]], [[17, 1, 0], [17, 0, 5]])

    def test_ticks_that_were_not_sent_do_not_count(self):
        told = run(*self.KNOWN, *[tick() for count in range(140)], *sent_ticks(5), put(2000, 1), tick(), send(0))
        self.assertEqual(told[-1][2:], [147, 1, 1])

    def test_another_clients_ticks_do_not_count(self):
        calls = [body(1), client(1, 1)] + self.KNOWN
        calls += [call for count in range(30) for call in (tick(), send(1))]
        self.assertEqual(last(*calls, send(0))[2:], [31, 1, 0])

    def test_a_base_of_long_ago(self):
        calls = [put(2000, 1), put(2001, 1)] + self.KNOWN + [put(2000, 2), unset(2001)]
        calls += [tick() for count in range(100)] + [put(2002, 1), tick(), send(0)]
        told = run(*calls, deliver(2), up(0), deliver(3), tick(), send(0))
        self.assertEqual(told[-6:], [[0, 2, 102, 1, 3], [0, 0], [0, 3, 102, 0], [0, 102, 0], [0, 103, 0, 0, 0],
                                     [0, 4, 103, 102, 0]])
        net = play(*calls, deliver(2))
        self.assertEqual(net.packets[2].changes, [(2000, 1, 2), (2001, 1, None), (2002, None, 1)])
        self.assertEqual(net.clients[0].worlds[102], net.kept[102])

    def test_word_of_a_tick_that_is_not_among_the_last_16_sent(self):
        # The packet up of tick 1 is packet 1; it comes only behind the others.
        late = ONE + [tick(), send(0), deliver(0), up(0)]
        for many, known in ((14, 1), (15, 1), (16, 0), (20, 0)):
            told = run(*late, *sent_ticks(many), deliver(1), tick(), send(0))
            self.assertEqual(told[-3], [0, known, 0])
            self.assertEqual(told[-1][3], known if many <= 15 else 0)

    def test_the_inputs_of_such_a_packet_come_all_the_same(self):
        calls = ONE + [push(0), tick(), send(0), deliver(0), up(0)] + sent_ticks(16) + [deliver(1), tick()]
        self.assertEqual(run(*calls)[-2:], [[0, 0, 1], [0, 18, 0, 1, 0]])

    def test_the_base_is_0_until_a_later_tick_is_known(self):
        calls = self.KNOWN + sent_ticks(17) + [deliver(18), up(0), send(0), deliver(19), send(0)]
        told = run(*calls)
        self.assertEqual(told[-5:], [[0, 0], [0, 19, 18, 0], [0, 20, 18, 0, 5], [0, 18, 0], [0, 21, 18, 18, 0]])

    def test_worlds_that_a_client_keeps(self):
        calls = ONE + [tick(), send(0), deliver(0)]
        for count in range(1, 20):
            calls += [put(2000, count), tick(), send(0), deliver(count)]
            net = play(*calls)
            self.assertEqual(list(net.clients[0].worlds), list(range(max(1, count - 14), count + 2)))

    def test_the_oldest_base_still_fits(self):
        # All of 15 later ones come, then the packet whose base is the sixteenth last.
        calls = self.KNOWN + sent_ticks(15) + [put(2000, 4), tick(), send(0)]
        calls += [deliver(p) for p in range(2, 17)]
        net = play(*calls)
        self.assertEqual(net.packets[17].base, 1)
        self.assertTrue(fits(net.clients[0].worlds[1], net.packets[17].changes))
        self.assertEqual(last(*calls, deliver(17)), [0, 0])
        self.assertEqual(play(*calls, deliver(17)).clients[0].worlds[17], net.kept[17])


class KeysBetweenTicks(Case):
    def changes(self, before, behind):
        calls = ONE + before + [tick(), send(0), deliver(0), up(0), deliver(1)] + behind + [tick(), send(0)]
        net = play(*calls, deliver(2))
        self.assertEqual(net.clients[0].worlds[net.tick], net.kept[net.tick])
        self.assertEqual(last(*calls)[2:], [net.tick, 1, len(net.packets[2].changes)])
        return net.packets[2].changes

    def test_set(self):
        self.assertEqual(self.changes([], [put(2000, 0)]), [(2000, None, 0)])

    def test_set_anew(self):
        self.assertEqual(self.changes([put(2000, 3)], [put(2000, 4), put(2000, 5)]), [(2000, 3, 5)])

    def test_set_to_what_it_was(self):
        self.assertEqual(self.changes([put(2000, 3)], [put(2000, 3)]), [])
        self.assertEqual(self.changes([put(2000, 3)], [put(2000, 4), put(2000, 3)]), [])

    def test_unset(self):
        self.assertEqual(self.changes([put(2000, 0)], [unset(2000)]), [(2000, 0, None)])

    def test_unset_and_set_again(self):
        self.assertEqual(self.changes([put(2000, 3)], [unset(2000), put(2000, 3)]), [])
        self.assertEqual(self.changes([put(2000, 3)], [unset(2000), put(2000, 0)]), [(2000, 3, 0)])
        self.assertEqual(self.changes([put(2000, 3)], [unset(2000), tick(), put(2000, 3)]), [])

    def test_set_and_unset_again(self):
        self.assertEqual(self.changes([], [put(2000, 3), unset(2000)]), [])
        self.assertEqual(self.changes([], [put(2000, 3), tick(), unset(2000)]), [])

    def test_bodies(self):
        self.assertEqual(self.changes([], [body(2, 0, 0, 0, 0), put(2, 5), put(1, 500)]),
                         [(2, 0, 5), (8, None, 0), (9, None, 0), (10, None, 0), (11, None, 0), (1002, None, 0)])

    def test_inputs(self):
        calls = ONE + [push(0, 1, 0) for count in range(5)]
        calls += [up(0), deliver(0), tick(), send(0), deliver(1), up(0), deliver(2), tick(), send(0)]
        self.assertEqual(last(*calls), [0, 3, 2, 1, 3])
        self.assertEqual(play(*calls).packets[3].changes, [(0, 510, 515), (2, 4, 5), (1000, 4, 5)])

    def test_what_is_set_behind_the_tick_is_not_sent(self):
        calls = ONE + [tick(), send(0), deliver(0), up(0), deliver(1), tick(), put(2000, 1), put(0, 0)]
        told = run(*calls, send(0), tick(), send(0), world())
        self.assertEqual([told[-4], told[-2]], [[0, 2, 2, 1, 0], [0, 3, 3, 1, 2]])


class BadNet(Case):
    """Lost, doubled, late and out of order, by hand; at random it's in test_history."""

    CALLS = ONE + [put(2000, 0)] + [
        call for count in range(1, 11) for call in (put(2000, count), put(2000 + count, count), tick(), send(0))]

    def mirrored(self, net):
        for number, seen in net.clients[0].worlds.items():
            self.assertEqual(seen, net.kept[number])

    def test_every_order(self):
        for order in ((0, 1, 2, 3), (9, 0, 5), (5, 5, 2, 9, 9, 7), (3,), (1, 4, 2, 8, 8, 3, 9, 0)):
            told = run(*self.CALLS, *[deliver(p) for p in order])[len(self.CALLS):]
            latest = [max((-1,) + order[:place]) for place in range(len(order))]
            self.assertEqual(told, [[0, 0 if p > seen else 1] for p, seen in zip(order, latest)])
            net = play(*self.CALLS, *[deliver(p) for p in order])
            self.assertEqual(net.clients[0].last_tick, max(order) + 1)
            self.mirrored(net)

    def test_packets_with_other_bases_mixed(self):
        calls = self.CALLS + [deliver(2), up(0), deliver(4), up(0), deliver(10), put(2001, 50), tick(), send(0)]
        calls += [deliver(11), unset(2002), tick(), send(0), up(0), deliver(14)]
        net = play(*calls)
        self.assertEqual([(p.tick, p.base) for p in net.packets if isinstance(p, Down)][-2:], [(11, 3), (12, 5)])
        for order in ((12, 13), (13, 12), (9, 13), (13, 9), (12, 12, 9, 13, 13)):
            seen = play(*calls, *[deliver(p) for p in order])
            self.assertEqual(seen.clients[0].last_tick, 12)
            self.mirrored(seen)

    def test_ups_of_every_order(self):
        made = ONE + [call for count in range(6) for call in (push(0, 1, -1), up(0))]
        whole = last(*made, deliver(5), tick(), tick(), world())
        for order in ((0, 1, 2, 3, 4, 5), (5, 4, 3, 2, 1, 0), (5,), (2, 2, 5, 0), (5, 5)):
            calls = made + [deliver(p) for p in order] + [tick(), tick(), world()]
            self.assertEqual(last(*calls), whole)
        calls = made + [deliver(2), tick(), deliver(0), deliver(5), tick(), deliver(5), deliver(1), world()]
        self.assertEqual(last(*calls), whole)
