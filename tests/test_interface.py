"""How calls are handed in and answers are given back."""

from mirrornet.mirrors import answers
from tests.helper import (
    BIG, Case, base, body, client, counts, deliver, drift, exchange, guess, offset, packet, push, put, render, ring,
    run, send, shot, tick, unset, up, world,
)

LINE = [number for call in (
    body(1, 500, 500, 0, 0), client(3, 1), push(3, 1, -2), up(3), deliver(0), put(2000, 7), tick(), world(),
    send(3), deliver(1), deliver(1), unset(2000), unset(2000), send(4), tick(),
    push(3, 0, 3), base(3), guess(3), body(0, 601, 498), put(4, 511), tick(), send(3), deliver(2), ring(3),
    render(3, 4, 7, 3), render(3, 2000, 3), render(3, 2001, 3), shot(3, 4, 0, 2, 3, 5, 2), shot(3, 1, 0, 3, 4, 3),
    drift(250), offset(3, 9), exchange(3, 10, 5, 16), exchange(3, 18, 20, 18), offset(3, 21), drift(0),
    packet(0), packet(2), packet(3), counts(),
) for number in call]

TOLD = [
    1, 0,
    1, 0,
    2, 0, 1,
    4, 0, 0, 0, 1,
    3, 0, 0, 1,
    1, 0,
    5, 0, 1, 3, 1, 0,
    15, 0, 1, 6, 4, 501, 5, 498, 6, 1, 7, -2, 1001, 1, 2000, 7,
    5, 0, 1, 1, 0, 6,
    2, 0, 0,
    2, 0, 1,
    1, 0,
    1, -1,
    1, -1,
    5, 0, 2, 3, 1, 0,
    2, 0, 2,
    15, 0, 1, 6, 4, 501, 5, 498, 6, 1, 7, -2, 1001, 1, 2000, 7,
    7, 0, 1, 502, 499, 1, 1, 2,
    1, 0,
    1, 0,
    5, 0, 3, 3, 1, 0,
    5, 0, 2, 3, 0, 10,
    2, 0, 0,
    3, 0, 3, 1,
    3, 0, 1523, 3,
    3, 0, 7, 1,
    1, -7,
    5, 0, 1, 0, 45, 2,
    1, -8,
    1, 0,
    1, -9,
    6, 0, 1, -11, 1, -7, 2,
    6, 0, 0, 2, 1, 2, 1,
    5, 0, 5, 4, 11, 4,
    1, -3,
    8, 0, 1, 3, 0, 1, 1, 1, -2,
    56, 0, 0, 3, 3, 0, 10,
    0, 0, 0, 1, 601, 1, 0, 0, 1, 498, 2, 0, 0, 1, 0, 3, 0, 0, 1, 0,
    4, 0, 0, 1, 511, 5, 0, 0, 1, 498, 6, 0, 0, 1, 1, 7, 0, 0, 1, -2, 1000, 0, 0, 1, 0, 1001, 0, 0, 1, 1,
    1, -1,
    9, 0, 3, 10, 3, 3, 3, 1, 0, 2,
]


class Interface(Case):
    def test_a_line_number_by_number(self):
        self.assertEqual(answers(list(LINE)), TOLD)

    def test_one_call_alone(self):
        self.assertEqual(answers([4]), [2, 0, 1])
        self.assertEqual(answers([9]), [3, 0, 0, 0])
        self.assertEqual(answers([7, 0]), [1, -1])
        self.assertEqual(answers([18]), [5, 0, 0, 0, 0, 0])
        self.assertEqual(answers([16, 500]), [1, 0])
        for call in ([10, 0], [11, 0], [12, 0, 0, 0, 1], [13, 0, 1, 0, 1, 2, 1, 1], [14, 0, 1, 2, 3], [15, 0, 1],
                     [17, 0], [19, 0]):
            self.assertEqual(answers(call), [1, -1])

    def test_each_call_takes_its_own_numbers(self):
        # Behind each call stands one that answers its own way.
        calls = [body(0), client(0, 0), put(2000, 1), unset(2000), tick(), send(0), up(0), deliver(0), push(0), world(),
                 base(0), guess(0), render(0, 0, 1), shot(0, 1, 1, 1, 2, 1), exchange(0, 1, 2, 3), offset(0, 4),
                 drift(3), packet(0), counts(), ring(0)]
        self.assertEqual([call[0] for call in calls], list(range(20)))
        for place, call in enumerate(calls):
            told = run(*calls[:place + 1], drift(501), deliver(-1), tick())
            self.assertEqual(len(told), place + 4, call)
            self.assertEqual(told[-3:-1], [[-2], [-1]], call)

    def test_what_is_handed_in_stays(self):
        line = list(LINE)
        answers(line)
        self.assertEqual(line, LINE)

    def test_what_is_handed_in_stays_all_the_while(self):
        class Sealed(list):
            def refuse(self, *args, **kwargs):
                raise AssertionError("the list handed in was changed")

            __setitem__ = __delitem__ = __iadd__ = __imul__ = refuse
            append = clear = extend = insert = pop = remove = reverse = sort = refuse

        self.assertEqual(answers(Sealed(LINE)), TOLD)

    def test_a_second_time_answers_as_the_first(self):
        line = list(LINE)
        first = answers(line)
        kept = list(first)
        other = answers([0, 1, 1, 1, 1, 1, 1, 3, 1, 8, 3, 1, 1, 2, 2000, 3, 4, 9])
        second = answers(line)
        self.assertEqual(second, kept)
        self.assertEqual(first, kept)
        self.assertFalse(first is second)
        self.assertEqual(answers([0, 1, 1, 1, 1, 1, 1, 3, 1, 8, 3, 1, 1, 2, 2000, 3, 4, 9]), other)

    def test_answers_given_back_are_the_callers_own(self):
        first = answers(list(LINE))
        first.clear()
        self.assertEqual(answers(list(LINE)), TOLD)

    def test_a_line_begins_anew(self):
        answers(list(LINE))
        self.assertEqual(run(world(), up(3), deliver(0), body(1), client(3, 1), push(3), up(3)),
                         [[0, 0, 0], [-1], [-1], [0], [0], [0, 1], [0, 0, 0, 1]])
        answers(list(LINE))
        self.assertEqual(run(counts(), body(1), client(3, 1), ring(3), base(3), offset(3, 50), render(3, 4, 1),
                             shot(3, 1, 0, 1, 2, 1), exchange(3, 0, 0, 8), counts()),
                         [[0, 0, 0, 0, 0], [0], [0], [0], [0, 0, 0], [-9], [-7], [-8], [0, 1, -8, 1, 0, 1],
                          [0, 0, 5, 0, 0, 3, 1, 0, 0]])

    def test_whole_numbers_alone(self):
        told = answers(list(LINE))
        self.assertIs(type(told), list)
        self.assertEqual({type(number) for number in told}, {int})

    def test_the_ends_of_all_numbers(self):
        for number in (-BIG, BIG):
            self.assertEqual(
                run(body(number), client(number, 0), client(0, number), put(number, 0), put(2000, number),
                    unset(number), send(number), up(number), deliver(number), push(number), tick(), world()),
                [[-2], [-2], [-2], [-2], [-2], [-2], [-1], [-1], [-1], [-1], [0, 1], [0, 1, 0]])
            ready = [body(0), client(0, 0), tick(), tick(), send(0), deliver(0)]
            self.assertEqual(
                run(*ready, base(number), guess(number), render(number, 0, 1), render(0, number, 1),
                    render(0, 0, number), render(0, 0, 1, number), shot(number, 1, 1, 1, 2, 1),
                    shot(0, number, 1, 1, 2, 1), shot(0, 1, number, 1, 2, 1), shot(0, 1, 1, number, 2, 1),
                    shot(0, 1, 1, 1, number, 1), shot(0, 1, 1, 1, 2, number), shot(0, 1, 1, 1, 2, 1, number))[6:],
                [[-1], [-1], [-1], [-2], [-2], [-2], [-1], [-2], [-2], [-2], [-2], [-2], [-2]])
            self.assertEqual(
                run(*ready, exchange(number, 1, 2, 3), exchange(0, number, 2, 3), exchange(0, 1, number, 3),
                    exchange(0, 1, 2, number), offset(0, number), exchange(0, 1, 2, 3), offset(number, 3),
                    offset(0, number), drift(number), packet(number), ring(number))[6:],
                [[-1], [-2], [-2], [-2], [-9], [0, 1, -1, 1, 1, 1], [-1], [-2], [-2], [-1], [-1]])

    def test_300_calls(self):
        told = run(*[tick() for count in range(150)], *[world() for count in range(150)])
        self.assertEqual(told[:150], [[0, count] for count in range(1, 151)])
        self.assertEqual(told[150:], [[0, 150, 0]] * 150)
