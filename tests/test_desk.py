"""The interface: how calls and answers stand in their lists."""

import unittest

from playclocks.desk import answers
from tests.helper import LATEST, ask, added, by_periods, delayed, go, now, plain, press, row, start


class Unchanging(list):
    """A list that tells when it is changed, be it for a while."""

    def refuse(self, *given, **named):
        raise AssertionError("the list handed in is changed")

    __setitem__ = __delitem__ = __iadd__ = __imul__ = refuse
    append = extend = insert = pop = remove = clear = sort = reverse = refuse


def flat(calls):
    return [number for call in calls for number in call]


class Form(unittest.TestCase):
    def test_each_answer_has_its_count_before_it(self):
        calls = [0, 2, 5, 0, 10, 0, 0, 0, 1, 0, 2, 4, 3, 5, 2, 15]
        self.assertEqual(answers(calls), [1, 0, 1, 0, 1, 0, 1, 1, 1, 101])

    def test_a_refusal_is_its_number_alone(self):
        calls = [0, 1, 5, 0, 10, 0, 0, 0, 0, 2, 0, 0, 2, 5, 0, 10, 0, 0, 0, 3, 0, 1, 0, 1, 0, 2, 10, 3, 10]
        self.assertEqual(answers(calls), [1, -22, 1, -22, 1, 0, 1, -16, 1, 0, 1, -17, 1, 100, 1, -41])

    def test_one_call(self):
        self.assertEqual(answers([0, 2, 0]), [1, -22])
        self.assertEqual(answers([0, 4, 5, 0, 1, 0, 0, 0]), [1, 0])

    def test_rows_of_40_numbers(self):
        calls = start(2, *[plain(moves=1)] * 8) + start(2, plain(5)) + go(0) + now(5)
        self.assertEqual(answers(calls), [1, -22, 1, 0, 1, 0, 1, 100])

    def test_it_gives_whole_numbers(self):
        given = answers(flat([start(2, plain(5)), go(0), press(1), now(20), now(2), start(1)]))
        self.assertIs(type(given), list)
        self.assertEqual([type(number) for number in given], [int] * 12)


class Apart(unittest.TestCase):
    def setUp(self):
        self.one = flat([start(2, by_periods(10, 5, 2, 1), delayed(9, 3)), go(3), press(9), now(20), press(22)])
        self.two = flat([start(3), start(3, added(10, 5)), now(0), go(0), now(4), press(5), now(15), start(2, plain())])

    def test_the_list_handed_in_is_not_changed(self):
        for calls in (self.one, self.two):
            handed = list(calls)
            given = answers(handed)
            self.assertEqual(handed, calls)
            self.assertEqual(answers(Unchanging(calls)), given)
            self.assertIsNot(given, handed)

    def test_two_uses_know_nothing_of_each_other(self):
        first, second = answers(self.one), answers(self.two)
        for k in range(3):
            self.assertEqual(answers(self.one), first)
            self.assertEqual(answers(self.two), second)

    def test_what_is_given_back_is_not_kept(self):
        first = answers(self.one)
        kept = list(first)
        first.clear()
        self.assertEqual(answers(self.one), kept)

    def test_an_object_is_new_behind_a_fallen_flag(self):
        calls = flat([start(2, plain(5)), go(0), now(LATEST)])
        self.assertEqual(answers(calls), [1, 0, 1, 0, 1, 100])
        self.assertEqual(answers(calls), [1, 0, 1, 0, 1, 100])


class Long(unittest.TestCase):
    def test_4000_calls(self):
        calls = [start(4, added(1000, 2)), go(0)] + [press(k) for k in range(3998)]
        self.assertEqual(ask(calls), [0, 0] + [(k + 1) % 4 for k in range(3998)])

    def test_4000_looks(self):
        calls = [start(2, delayed(1000, 2000)), go(0)] + [now(k) for k in range(3998)]
        self.assertEqual(ask(calls), [0, 0] + [0 if k < 3000 else 100 for k in range(3998)])

    def test_30000_numbers(self):
        wrong = start(2, *[row()] * 8)
        calls = [wrong] * 697 + [start(2, plain(5)), go(0), press(3)]
        self.assertLessEqual(len(flat(calls)), 30000)
        self.assertEqual(ask(calls), [-22] * 697 + [0, 0, 1])

    def test_many_starts(self):
        self.assertEqual(ask([start(2, plain(5))] * 3750), [0] * 3750)
