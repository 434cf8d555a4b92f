"""How calls are handed in and answers are given back."""

from mirrornet.mirrors import answers
from tests.helper import BIG, Case, body, client, deliver, push, put, run, send, tick, unset, up, world

LINE = [number for call in (
    body(1, 500, 500, 0, 0), client(3, 1), push(3, 1, -2), up(3), deliver(0), put(2000, 7), tick(), world(),
    send(3), deliver(1), deliver(1), unset(2000), unset(2000), send(4), tick(),
) for number in call]

TOLD = [
    1, 0,
    1, 0,
    2, 0, 1,
    4, 0, 0, 0, 1,
    3, 0, 0, 1,
    1, 0,
    5, 0, 1, 3, 1, 0,
    15, 0, 1, 6, 4, 501, 5, 498, 6, 1, 7, -2, 1001, 1, 2000, 7,
    5, 0, 1, 1, 0, 6,
    2, 0, 0,
    2, 0, 1,
    1, 0,
    1, -1,
    1, -1,
    5, 0, 2, 3, 1, 0,
]


class Interface(Case):
    def test_a_line_number_by_number(self):
        self.assertEqual(answers(list(LINE)), TOLD)

    def test_one_call_alone(self):
        self.assertEqual(answers([4]), [2, 0, 1])
        self.assertEqual(answers([9]), [3, 0, 0, 0])
        self.assertEqual(answers([7, 0]), [1, -1])

    def test_what_is_handed_in_stays(self):
        line = list(LINE)
        answers(line)
        self.assertEqual(line, LINE)

    def test_what_is_handed_in_stays_all_the_while(self):
        class Sealed(list):
            def refuse(self, *args, **kwargs):
                raise AssertionError("the list handed in was changed")

            __setitem__ = __delitem__ = __iadd__ = __imul__ = refuse
            append = clear = extend = insert = pop = remove = reverse = sort = refuse

        self.assertEqual(answers(Sealed(LINE)), TOLD)

    def test_a_second_time_answers_as_the_first(self):
        line = list(LINE)
        first = answers(line)
        kept = list(first)
        other = answers([0, 1, 1, 1, 1, 1, 1, 3, 1, 8, 3, 1, 1, 2, 2000, 3, 4, 9])
        second = answers(line)
        self.assertEqual(second, kept)
        self.assertEqual(first, kept)
        self.assertFalse(first is second)
        self.assertEqual(answers([0, 1, 1, 1, 1, 1, 1, 3, 1, 8, 3, 1, 1, 2, 2000, 3, 4, 9]), other)

    def test_answers_given_back_are_the_callers_own(self):
        first = answers(list(LINE))
        first.clear()
        self.assertEqual(answers(list(LINE)), TOLD)

    def test_a_line_begins_anew(self):
        answers(list(LINE))
        self.assertEqual(run(world(), up(3), deliver(0), body(1), client(3, 1), push(3), up(3)),
                         [[0, 0, 0], [-1], [-1], [0], [0], [0, 1], [0, 0, 0, 1]])

    def test_whole_numbers_alone(self):
        told = answers(list(LINE))
        self.assertIs(type(told), list)
        self.assertEqual({type(number) for number in told}, {int})

    def test_the_ends_of_all_numbers(self):
        for number in (-BIG, BIG):
            self.assertEqual(
                run(body(number), client(number, 0), client(0, number), put(number, 0), put(2000, number),
                    unset(number), send(number), up(number), deliver(number), push(number), tick(), world()),
                [[-2], [-2], [-2], [-2], [-2], [-2], [-1], [-1], [-1], [-1], [0, 1], [0, 1, 0]])

    def test_300_calls(self):
        told = run(*[tick() for count in range(150)], *[world() for count in range(150)])
        self.assertEqual(told[:150], [[0, count] for count in range(1, 151)])
        self.assertEqual(told[150:], [[0, 150, 0]] * 150)
