"""How a body follows inputs, and which of them a tick lets it follow."""

from mirrornet.bodies import follow
from mirrornet.net import Net
from mirrornet.packets import Up
from tests.helper import Case, body, client, deliver, last, play, push, run, send, shown, tick, up, world


def moved(x, v, a):
    """x and its speed behind one input, by both axes; what the other axis has must stay."""
    by_x = shown(last(body(2, x, 500, v, 0), client(0, 2), push(0, a, 0), up(0), deliver(0), tick(), world()))
    by_y = shown(last(body(2, 500, x, 0, v), client(0, 2), push(0, 0, a), up(0), deliver(0), tick(), world()))
    if (by_x[9], by_x[11], by_x[1002]) != (500, 0, 1) or (by_y[8], by_y[10], by_y[1002]) != (500, 0, 1):
        raise AssertionError("the other axis moved")
    if (by_x[8], by_x[10]) != (by_y[9], by_y[11]):
        raise AssertionError("x and y do not move alike")
    return by_x[8], by_x[10]


class OneInput(Case):
    def test_the_speed_grows_and_the_body_moves_by_it(self):
        self.assertEqual(moved(500, 0, 0), (500, 0))
        self.assertEqual(moved(500, 0, 3), (503, 3))
        self.assertEqual(moved(500, 0, -3), (497, -3))
        self.assertEqual(moved(500, 5, -3), (502, 2))
        self.assertEqual(moved(500, -5, 2), (497, -3))

    def test_speeds_held(self):
        self.assertEqual(moved(500, 20, 1), (520, 20))
        self.assertEqual(moved(500, 18, 3), (520, 20))
        self.assertEqual(moved(500, 17, 3), (520, 20))
        self.assertEqual(moved(500, 17, 2), (519, 19))
        self.assertEqual(moved(500, -20, -1), (480, -20))
        self.assertEqual(moved(500, -18, -3), (480, -20))
        self.assertEqual(moved(500, -17, -3), (480, -20))
        self.assertEqual(moved(500, -17, -2), (481, -19))

    def test_turned_back_below_0(self):
        self.assertEqual(moved(0, 0, -1), (1, 1))
        self.assertEqual(moved(5, -8, 0), (3, 8))
        self.assertEqual(moved(0, -20, -3), (20, 20))
        self.assertEqual(moved(8, -8, 0), (0, -8))
        self.assertEqual(moved(0, -1, 1), (0, 0))
        self.assertEqual(moved(0, 1, 0), (1, 1))

    def test_turned_back_above_1000(self):
        self.assertEqual(moved(1000, 0, 1), (999, -1))
        self.assertEqual(moved(995, 8, 0), (997, -8))
        self.assertEqual(moved(1000, 20, 3), (980, -20))
        self.assertEqual(moved(992, 8, 0), (1000, 8))
        self.assertEqual(moved(1000, -1, 0), (999, -1))

    def test_both_axes_each_by_its_own(self):
        told = last(body(0, 2, 999, -4, 0), client(1, 0), push(1, -1, 3), up(1), deliver(0), tick(), world())
        self.assertEqual(shown(told), {0: 3, 1: 998, 2: 5, 3: -3, 1000: 1})

    def test_every_speed_and_push_at_the_walls(self):
        for x in (0, 1, 19, 20, 21, 979, 980, 981, 999, 1000):
            for v in range(-20, 21):
                for a in range(-3, 4):
                    seen = {0: x, 1: 500, 2: v, 3: 0, 1000: 0}
                    follow(seen, 0, a, 0)
                    speed = sorted((-20, v + a, 20))[1]
                    turned = not 0 <= x + speed <= 1000
                    place = min((x + speed, -x - speed, 2000 - x - speed), key=lambda n: abs(n - 500))
                    self.assertEqual((seen[0], seen[2]), (place, -speed if turned else speed), (x, v, a))

    def test_ticks_without_inputs_move_nothing(self):
        told = run(body(0, 500, 500, 7, -7), client(0, 0), tick(), tick(), world())
        self.assertEqual(shown(told[-1]), {0: 500, 1: 500, 2: 7, 3: -7, 1000: 0})


class Inputs(Case):
    READY = [body(0), client(0, 0)]

    def test_numbers_from_1(self):
        self.assertEqual(run(*self.READY, body(1), client(1, 1), push(0), push(0), push(1), push(0))[4:],
                         [[0, 1], [0, 2], [0, 1], [0, 3]])

    def test_edges(self):
        for a in range(-3, 4):
            self.taken(self.READY, push(0, a, 0), [0, 1])
            self.taken(self.READY, push(0, 0, a), [0, 1])

    def test_beyond_the_edges(self):
        for a in (-4, 4, 3000000000, -3000000000):
            self.refused(self.READY, push(0, a, 0), -2)
            self.refused(self.READY, push(0, 0, a), -2)

    def test_no_such_client(self):
        self.refused([], push(0), -1)
        for c in (-1, 1, 10):
            self.refused(self.READY, push(c), -1)

    def test_64_inputs(self):
        full = self.READY + [push(0) for count in range(64)]
        self.assertEqual(last(*full), [0, 64])
        self.refused(full, push(0), -4)
        self.taken(full + [push(0), push(0)], up(0), [0, 0, 0, 64])

    def test_the_refusal_told_first(self):
        full = self.READY + [push(0) for count in range(64)]
        self.refused(full, push(1, 4, 0), -1)
        self.refused(full, push(0, 4, 0), -2)
        self.refused(full, push(0, 0, -4), -2)

    def test_64_that_are_not_forgotten(self):
        calls = self.READY + [push(0) for count in range(64)]
        calls += [up(0), deliver(0), tick(), push(0), send(0), deliver(1)]
        calls += [push(0), push(0), push(0), push(0), push(0), up(0)]
        # Followed at the server isn't forgotten by the client: that's so only when the world comes.
        self.assertEqual(run(*calls)[-9:],
                         [[-4], [0, 1, 1, 0, 5], [0, 0], [0, 65], [0, 66], [0, 67], [0, 68], [-4], [0, 2, 1, 64]])

    def test_other_clients_inputs_do_not_count(self):
        calls = self.READY + [body(1), client(1, 1)] + [push(0) for count in range(64)]
        self.taken(calls, push(1), [0, 1])


class Ticks(Case):
    READY = [body(0), client(0, 0)]

    def test_four_a_tick_at_most(self):
        for many in range(10):
            told = run(*self.READY, *[push(0, 1, 0) for count in range(many)], up(0), deliver(0), tick(), tick())
            first, second = min(many, 4), min(many, 8)
            self.assertEqual(told[-3:], [[0, 0, many], [0, 1, 0, first, many - first],
                                         [0, 2, 0, second, many - second]])

    def test_in_the_order_of_their_numbers(self):
        told = run(*self.READY, push(0, 3, 0), push(0, -3, 1), push(0, 2, 2), up(0), deliver(0), tick(), world())
        self.assertEqual(shown(told[-1]), {0: 505, 1: 504, 2: 2, 3: 3, 1000: 3})

    def test_packets_out_of_order(self):
        told = run(*self.READY, push(0, 1, 0), up(0), push(0, 0, 1), up(0), push(0, 2, 0), up(0),
                   deliver(2), deliver(0), deliver(1), tick(), world())
        self.assertEqual(told[8:12], [[0, 0, 3], [0, 0, 3], [0, 0, 3], [0, 1, 0, 3, 0]])
        self.assertEqual(shown(told[-1]), {0: 505, 1: 502, 2: 3, 3: 1, 1000: 3})

    def test_packets_that_come_twice(self):
        calls = self.READY + [push(0, 1, 0), push(0, 1, 0), up(0), deliver(0), deliver(0), tick()]
        calls += [deliver(0), tick(), deliver(0), world()]
        told = run(*calls)
        self.assertEqual(told[5:11], [[0, 0, 2], [0, 0, 2], [0, 1, 0, 2, 0], [0, 0, 0], [0, 2, 0, 2, 0], [0, 0, 0]])
        self.assertEqual(shown(told[-1]), {0: 503, 1: 500, 2: 2, 3: 0, 1000: 2})

    def test_a_part_of_it_was_followed(self):
        calls = self.READY + [push(0, 1, 0), up(0), push(0, 1, 0), push(0, 1, 0), up(0), deliver(0), tick()]
        told = run(*calls, deliver(1), tick(), world())
        self.assertEqual(told[-3:-1], [[0, 0, 2], [0, 2, 0, 3, 0]])
        self.assertEqual(shown(told[-1]), {0: 506, 1: 500, 2: 3, 3: 0, 1000: 3})

    def test_a_packet_lost(self):
        calls = self.READY + [push(0, 1, 0), up(0), push(0, 0, 1), up(0), deliver(1), tick(), world()]
        self.assertEqual(shown(last(*calls)), {0: 501 + 1, 1: 501, 2: 1, 3: 1, 1000: 2})

    def test_followed_at_the_server_alone_is_sent_again(self):
        calls = self.READY + [push(0, 1, 0), up(0), deliver(0), tick(), push(0, 1, 0), up(0), deliver(1), tick()]
        self.assertEqual(run(*calls)[-3:], [[0, 1, 0, 2], [0, 0, 1], [0, 2, 0, 2, 0]])

    def test_a_gap_is_waited_for(self):
        # No net makes a gap (a packet up has all that isn't forgotten), so it's made by hand.
        net = play(*self.READY)
        peer = net.peers[0]
        peer.take_up(Up(0, 0, {2: (1, 0), 3: (1, 0), 5: (1, 0)}), 0)
        net.advance()
        self.assertEqual((net.followed_by(0), sorted(peer.waiting)), (0, [2, 3, 5]))
        peer.take_up(Up(0, 0, {1: (0, 2)}), 0)
        net.advance()
        self.assertEqual((net.followed_by(0), sorted(peer.waiting)), (3, [5]))
        self.assertEqual(net.world, {0: 503, 1: 506, 2: 2, 3: 2, 1000: 3})
        peer.take_up(Up(0, 0, {3: (3, 3), 4: (0, 0)}), 3)
        net.advance()
        self.assertEqual((net.followed_by(0), peer.waiting), (5, {}))

    def test_the_first_of_a_number_counts(self):
        net = play(*self.READY)
        net.peers[0].take_up(Up(0, 0, {1: (1, 0)}), 0)
        net.peers[0].take_up(Up(0, 0, {1: (3, 3)}), 0)
        net.advance()
        self.assertEqual(net.world, {0: 501, 1: 500, 2: 1, 3: 0, 1000: 1})

    def test_each_client_has_its_own(self):
        told = run(body(0), body(5), client(8, 5), client(3, 0), push(8, 1, 1), push(3, 2, 0), push(3, 0, 0), up(3),
                   up(8), deliver(0), tick(), deliver(1), tick(), world())
        self.assertEqual(told[9:13], [[0, 0, 2], [0, 1, 8, 0, 0, 3, 2, 0], [0, 0, 1], [0, 2, 8, 1, 0, 3, 2, 0]])
        self.assertEqual(shown(told[-1]), {0: 504, 1: 500, 2: 2, 3: 0, 20: 501, 21: 501, 22: 1, 23: 1,
                                           1000: 2, 1005: 1})


class KeptWorlds(Case):
    def test_those_of_the_last_64_ticks(self):
        for many in (0, 1, 63, 64, 65, 150):
            net = Net()
            for count in range(many):
                net.world = {2000: count}
                net.advance()
            wanted = {number: {2000: number - 1} for number in range(max(1, many - 63), many + 1)}
            self.assertEqual(net.kept, wanted)

    def test_what_is_set_behind_a_tick_is_in_the_next_ones_world(self):
        net = play((2, 2000, 1), tick(), (2, 2000, 2), (2, 2001, 3), tick(), (3, 2000), tick())
        self.assertEqual(net.kept, {1: {2000: 1}, 2: {2000: 2, 2001: 3}, 3: {2001: 3}})
