"""body, client, set, unset, tick, world."""

from tests.helper import BIG, Case, body, client, deliver, last, push, put, run, send, shown, tick, unset, up, world

ONE = [body(1, 10, 20, 3, -4), client(5, 1), put(2000, 9), push(5, 1, 1), up(5), deliver(0), tick(), send(5)]
FOUR = [body(b, 100 * b, 0, 0, 0) for b in range(6)] + [client(c, c) for c in range(4)]


class Body(Case):
    def test_a_body_has_its_five_keys(self):
        for b in range(8):
            self.assertEqual(run(body(b, 1, 2, 3, -4), world()), [
                [0], [0, 0, 5, 4 * b, 1, 4 * b + 1, 2, 4 * b + 2, 3, 4 * b + 3, -4, 1000 + b, 0]])

    def test_eight_bodies(self):
        told = run(*[body(b, b, 10 + b, b - 4, 4 - b) for b in range(8)], world())
        self.assertEqual(told[:8], [[0]] * 8)
        wanted = {}
        for b in range(8):
            wanted.update({4 * b: b, 4 * b + 1: 10 + b, 4 * b + 2: b - 4, 4 * b + 3: 4 - b, 1000 + b: 0})
        self.assertEqual(shown(told[8]), wanted)

    def test_edges(self):
        for call in (body(0), body(7), body(3, x=0), body(3, x=1000), body(3, y=0), body(3, y=1000),
                     body(3, vx=-20), body(3, vx=20), body(3, vy=-20), body(3, vy=20)):
            self.taken([], call, [0])

    def test_beyond_the_edges(self):
        for call in (body(-1), body(8), body(3, x=-1), body(3, x=1001), body(3, y=-1), body(3, y=1001),
                     body(3, vx=-21), body(3, vx=21), body(3, vy=-21), body(3, vy=21), body(BIG), body(3, x=-BIG)):
            self.refused([], call, -2)
            self.refused(ONE, call, -2)

    def test_there_is_one_of_that_number(self):
        self.refused(ONE, body(1, 10, 20, 3, -4), -3)
        self.refused(ONE, body(1), -3)

    def test_the_range_is_told_ahead_of_the_number_taken(self):
        self.refused(ONE, body(1, x=1001), -2)
        self.refused(ONE, body(1, vy=-21), -2)


class Client(Case):
    def test_edges(self):
        for c in range(10):
            self.taken([body(0)], client(c, 0), [0])
        for b in range(8):
            self.taken([body(b)], client(4, b), [0])

    def test_beyond_the_edges(self):
        for call in (client(-1, 0), client(10, 0), client(0, -1), client(0, 8), client(-BIG, 0), client(0, BIG)):
            self.refused([body(0)], call, -2)

    def test_taken(self):
        before = [body(0), body(1), client(3, 0)]
        self.refused(before, client(3, 1), -3)
        self.refused(before, client(3, 0), -3)
        self.refused(before, client(4, 0), -3)
        self.taken(before, client(4, 1), [0])

    def test_no_such_body(self):
        self.refused([], client(0, 0), -1)
        self.refused([body(0)], client(0, 1), -1)

    def test_four_clients(self):
        self.assertEqual(run(*FOUR)[6:], [[0]] * 4)
        self.refused(FOUR, client(4, 4), -4)
        self.refused(FOUR, client(9, 5), -4)

    def test_the_refusal_told_first(self):
        one = [body(0), client(3, 0)]
        self.refused(one, client(10, 0), -2)
        self.refused(one, client(3, 8), -2)
        self.refused(one, client(-1, 5), -2)
        self.refused(one, client(3, 5), -3)
        self.refused(FOUR, client(10, 4), -2)
        self.refused(FOUR, client(9, 8), -2)
        self.refused(FOUR, client(2, 4), -3)
        self.refused(FOUR, client(9, 2), -3)
        self.refused(FOUR, client(2, 7), -3)
        self.refused(FOUR, client(9, 7), -1)

    def test_a_refused_client_takes_no_place(self):
        told = run(body(0), client(0, 1), client(0, 0), client(0, 0), body(1), client(1, 1), tick())
        self.assertEqual(told, [[0], [-1], [0], [-3], [0], [0], [0, 1, 0, 0, 0, 1, 0, 0]])


class Set(Case):
    def test_a_key_has_this_value(self):
        told = run(put(2000, 5), world(), put(2000, -6), put(2063, 0), world())
        self.assertEqual(told, [[0], [0, 0, 1, 2000, 5], [0], [0], [0, 0, 2, 2000, -6, 2063, 0]])

    def test_edges_of_free_keys(self):
        for k in (2000, 2063):
            for z in (-1000000, 1000000, 0):
                self.assertEqual(run(put(k, z), world()), [[0], [0, 0, 1, k, z]])
            for z in (-1000001, 1000001):
                self.refused(ONE, put(k, z), -2)

    def test_keys_that_cannot_be_set(self):
        for k in (-1, 32, 999, 1000, 1001, 1007, 1008, 1999, 2064, BIG, -BIG):
            self.refused(ONE, put(k, 0), -2)

    def test_edges_of_a_bodys_values(self):
        for b in (0, 7):
            for k, low, high in ((0, 0, 1000), (1, 0, 1000), (2, -20, 20), (3, -20, 20)):
                for z in (low, high):
                    told = run(body(b), put(4 * b + k, z), world())
                    self.assertEqual(told[1], [0])
                    self.assertEqual(shown(told[2])[4 * b + k], z)
                for z in (low - 1, high + 1):
                    self.refused([body(b)], put(4 * b + k, z), -2)

    def test_one_value_alone_is_set(self):
        told = run(body(2, 1, 2, 3, 4), body(3, 5, 6, 7, 8), put(9, 77), world())
        self.assertEqual(shown(told[3]), {8: 1, 9: 77, 10: 3, 11: 4, 1002: 0, 12: 5, 13: 6, 14: 7, 15: 8, 1003: 0})

    def test_no_such_body(self):
        for k in range(32):
            if k // 4 == 1:
                self.taken([body(1)], put(k, 0), [0])
            else:
                self.refused([body(1)], put(k, 0), -1)

    def test_no_such_body_is_told_ahead_of_the_range(self):
        self.refused([], put(0, 1001), -1)
        self.refused([body(6)], put(31, -21), -1)

    def test_a_set_body_follows_from_there(self):
        told = run(body(0), client(0, 0), push(0, 2, 0), up(0), deliver(0), put(0, 100), put(2, -10), tick(), world())
        self.assertEqual(shown(told[-1]), {0: 92, 1: 500, 2: -8, 3: 0, 1000: 1})


class Unset(Case):
    def test_edges(self):
        for k in (2000, 2063):
            self.assertEqual(run(put(k, 1), unset(k), world()), [[0], [0], [0, 0, 0]])

    def test_beyond_the_edges(self):
        for k in (1999, 2064, -1, 0, 4, 31, 32, 1001, BIG, -BIG):
            self.refused(ONE, unset(k), -2)

    def test_it_is_not_there(self):
        self.refused([], unset(2000), -1)
        self.refused(ONE, unset(2063), -1)
        self.refused([put(2000, 1), unset(2000)], unset(2000), -1)

    def test_one_key_alone_goes(self):
        told = run(put(2000, 1), put(2001, 0), put(2002, 3), unset(2001), world(), put(2001, 4), world())
        self.assertEqual(told[4], [0, 0, 2, 2000, 1, 2002, 3])
        self.assertEqual(told[6], [0, 0, 3, 2000, 1, 2001, 4, 2002, 3])


class Tick(Case):
    def test_without_clients(self):
        self.assertEqual(run(tick(), body(0), tick(), tick()), [[0, 1], [0], [0, 2], [0, 3]])

    def test_clients_in_the_order_in_which_they_came(self):
        told = run(body(0), body(1), body(2), client(9, 1), client(0, 2), client(4, 0), tick())
        self.assertEqual(told[-1], [0, 1, 9, 0, 0, 0, 0, 0, 4, 0, 0])

    def test_what_follows_and_what_waits(self):
        before = [body(0), body(1), client(7, 0), client(2, 1)]
        inputs = [push(7) for count in range(6)] + [push(2)]
        told = run(*before, *inputs, up(7), up(2), deliver(0), deliver(1), tick(), tick(), tick())
        self.assertEqual(told[-3:], [[0, 1, 7, 4, 2, 2, 1, 0], [0, 2, 7, 6, 0, 2, 1, 0], [0, 3, 7, 6, 0, 2, 1, 0]])

    def test_the_tick_10000_is_the_last(self):
        # No line has that many ticks, so the refusal shows only in one that is longer than a line may be.
        told = run(*[tick() for count in range(10000)], put(2000, 1), tick(), world())
        self.assertEqual(told[9999], [0, 10000])
        self.assertEqual(told[10001:], [[-5], [0, 10000, 1, 2000, 1]])


class World(Case):
    def test_at_first_there_is_nothing(self):
        self.assertEqual(run(world()), [[0, 0, 0]])

    def test_keys_rise_however_they_came(self):
        told = run(put(2005, 1), body(3, 1, 2, 3, 4), put(2001, 2), body(1, 5, 6, 7, 8), tick(), world())
        self.assertEqual(told[-1], [0, 1, 12, 4, 5, 5, 6, 6, 7, 7, 8, 12, 1, 13, 2, 14, 3, 15, 4,
                                    1001, 0, 1003, 0, 2001, 2, 2005, 1])

    def test_with_what_was_set_since_the_tick(self):
        self.assertEqual(last(put(2000, 1), tick(), put(2000, 2), put(2001, 3), world()),
                         [0, 1, 2, 2000, 2, 2001, 3])

    def test_a_full_world(self):
        calls = [body(b) for b in range(8)] + [put(k, k) for k in range(2000, 2064)]
        self.assertEqual(last(*calls, world())[:3], [0, 0, 104])

    def test_asking_changes_nothing(self):
        calls = ONE + [put(2001, 1), tick()]
        self.assertEqual(run(*calls, world(), world(), tick(), world())[len(calls) + 1:],
                         run(*calls, world(), tick(), world())[len(calls):])
