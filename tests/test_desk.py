"""The interface: how calls and answers stand in their lists."""

import unittest

from playclocks.desk import answers
from tests.helper import (
    LATEST, added, ask, by_periods, delayed, flat, go, hourglass, left, now, pause, plain, press, row, set_left, start,
    state,
)


class Unchanging(list):
    """A list that tells when it is changed, be it for a while."""

    def refuse(self, *given, **named):
        raise AssertionError("the list handed in is changed")

    __setitem__ = __delitem__ = __iadd__ = __imul__ = refuse
    append = extend = insert = pop = remove = clear = sort = reverse = refuse


class Form(unittest.TestCase):
    def test_each_answer_has_its_count_before_it(self):
        calls = [0, 2, 5, 0, 10, 0, 0, 0, 1, 0, 2, 4, 3, 5, 2, 15]
        self.assertEqual(answers(calls), [1, 0, 1, 0, 1, 0, 1, 1, 1, 101])

    def test_a_refusal_is_its_number_alone(self):
        calls = [0, 1, 5, 0, 10, 0, 0, 0, 0, 2, 0, 0, 2, 5, 0, 10, 0, 0, 0, 3, 0, 1, 0, 1, 0, 2, 10, 3, 10]
        self.assertEqual(answers(calls), [1, -22, 1, -22, 1, 0, 1, -16, 1, 0, 1, -17, 1, 100, 1, -41])

    def test_what_pause_set_left_and_state_answer(self):
        calls = [0, 2, 5, 0, 10, 4, 3, 2, 7, 5, 1, 20, 6, 1, 1, 5, 4, 16, 6, 0, 7, 1, 20, 2, 90, 7, 6, 0]
        self.assertEqual(answers(calls), [
            1, 0, 4, 0, 0, 0, 0, 1, 0, 5, 20, 2, 0, 0, 0, 1, 0, 1, 0, 5, 2, 1, 1, 0, 0, 4, 0, 0, 16, 0, 1, 0, 1, 100,
            4, 100, 0, 90, 0, 5, 0, 0, 1, 0, 0,
        ])

    def test_a_refusal_of_them_is_its_number_alone(self):
        calls = [0, 2, 5, 0, 10, 0, 0, 0, 4, 0, 5, 2, 9, 6, 2, 1, 0, 5, 0, 9, 4, 1000000001]
        calls += [2, 10, 4, 10, 5, 0, 9, 6, 9, 7]
        self.assertEqual(answers(calls), [
            1, 0, 1, -16, 1, -22, 1, -22, 1, 0, 1, -16, 1, -22, 1, 100, 1, -41, 1, -41, 1, -22, 4, 100, 0, 10, 0,
        ])

    def test_one_call(self):
        self.assertEqual(answers([0, 2, 0]), [1, -22])
        self.assertEqual(answers([0, 4, 5, 0, 1, 0, 0, 0]), [1, 0])

    def test_rows_of_40_numbers(self):
        calls = start(2, *[plain(moves=1)] * 8) + start(2, plain(5)) + go(0) + now(5)
        self.assertEqual(answers(calls), [1, -22, 1, 0, 1, 0, 1, 100])

    def test_it_gives_whole_numbers(self):
        calls = [start(2, by_periods(5, 2, 1)), state(), go(0), state(), press(6), left(0), pause(7), set_left(0, 4)]
        given = answers(flat(calls + [go(7), now(20), state(), left(1), left(2), now(2), start(1)]))
        self.assertIs(type(given), list)
        self.assertEqual([type(number) for number in given], [int] * (15 * 2 + 3 * 3 + 2 * 4))


class Apart(unittest.TestCase):
    def setUp(self):
        self.one = flat([start(2, by_periods(10, 5, 2, 1), delayed(9, 3)), go(3), press(9), now(20), press(22),
                         left(0), pause(23), set_left(1, 5), state(), left(1)])
        self.two = flat([start(3), start(3, added(10, 5)), now(0), go(0), now(4), press(5), now(15), state(),
                         start(2, plain()), left(1), left(2)])

    def test_the_list_handed_in_is_not_changed(self):
        for calls in (self.one, self.two):
            handed = list(calls)
            given = answers(handed)
            self.assertEqual(handed, calls)
            self.assertEqual(answers(Unchanging(calls)), given)
            self.assertIsNot(given, handed)

    def test_two_uses_know_nothing_of_each_other(self):
        first, second = answers(self.one), answers(self.two)
        for k in range(3):
            self.assertEqual(answers(self.one), first)
            self.assertEqual(answers(self.two), second)

    def test_what_is_given_back_is_not_kept(self):
        first = answers(self.one)
        kept = list(first)
        first.clear()
        self.assertEqual(answers(self.one), kept)

    def test_start_again_in_the_middle(self):
        line = [start(2, by_periods(10, 5, 2, 1), delayed(9, 3)), left(1), go(3), press(15), pause(16), left(0),
                set_left(1, 2), go(20), left(1), now(22), state()]
        other = [start(4, hourglass(30)), go(1), press(9), left(0), left(1), pause(20), state()]
        for first, second in ((line, other), (other, line), (line, line), (other, other)):
            self.assertEqual(ask(first + second), ask(first) + ask(second))
            self.assertEqual(ask(first + second + first), ask(first) + ask(second) + ask(first))
        refused = [start(2, hourglass(30), plain())]
        self.assertEqual(ask(line + refused + other), ask(line) + [-22] + ask(other))

    def test_an_object_is_new_behind_a_fallen_flag(self):
        calls = flat([start(2, plain(5)), go(0), now(LATEST)])
        self.assertEqual(answers(calls), [1, 0, 1, 0, 1, 100])
        self.assertEqual(answers(calls), [1, 0, 1, 0, 1, 100])


class Long(unittest.TestCase):
    def test_4000_calls(self):
        calls = [start(4, added(1000, 2)), go(0)] + [press(k) for k in range(3998)]
        self.assertEqual(ask(calls), [0, 0] + [(k + 1) % 4 for k in range(3998)])

    def test_4000_looks(self):
        calls = [start(2, delayed(1000, 2000)), go(0)] + [now(k) for k in range(3998)]
        self.assertEqual(ask(calls), [0, 0] + [0 if k < 3000 else 100 for k in range(3998)])

    def test_4000_times_left(self):
        calls = [start(4, by_periods(1000, 2, 3)), go(0), now(7)] + [left(1), left(0), left(4)] * 1332 + [state()]
        due = [[1000, 3, 0, 0, 0], [993, 3, 0, 0, 0], -22] * 1332
        self.assertEqual(len(calls), 4000)
        self.assertEqual(ask(calls), [0, 0, 0] + due + [[0, 0, 7, 1]])

    def test_4000_states(self):
        calls = [start(2, plain(10)), go(0)] + [state(), now(1)] * 1999
        self.assertEqual(ask(calls), [0, 0, [0, 0, 0, 1], 0] + [[0, 0, 1, 1], 0] * 1998)

    def test_4000_pauses(self):
        calls = [start(2, delayed(10, 2000))] + [each for k in range(1999) for each in (go(2 * k), pause(2 * k + 1))]
        calls += [left(0)]
        self.assertEqual(len(calls), 4000)
        self.assertEqual(ask(calls), [0] * 3999 + [[10, 0, 0, 0, 0]])

    def test_30000_numbers(self):
        wrong = start(2, *[row()] * 8)
        calls = [wrong] * 697 + [start(2, plain(5))] + [set_left(1, 40)] * 5 + [go(0), press(3), left(1)]
        self.assertEqual(len(flat(calls)), 30000)
        self.assertEqual(ask(calls), [-22] * 697 + [0] * 7 + [1, [40, 0, 0, 0, 0]])

    def test_many_starts(self):
        self.assertEqual(ask([start(2, plain(5))] * 3750), [0] * 3750)
