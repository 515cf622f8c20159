"""Point 6: set."""

from tests.helper import (
    LATEST, MOST_MAIN, TOP, ClockCase, added, by_periods, delayed, given_back, go, hourglass, left, now, pause,
    plain, press, seen, set_left, start, state,
)


class Set(ClockCase):
    def test_so_much_is_left(self):
        for amount in (1, 2, 10, 11, MOST_MAIN - 1, MOST_MAIN):
            with self.subTest(amount=amount):
                begin = [start(2, plain(10)), set_left(0, amount)]
                self.assertEqual(
                    seen(begin, 2), [[amount, 0, 0, 0, 0], [10, 0, 0, 0, 0], [0, 0, 0, 0]])
                self.falls(begin + [go(0)], amount, 0)

    def test_wrong_left(self):
        for amount in (0, MOST_MAIN + 1, LATEST, TOP):
            self.check((start(2, plain(10)), 0), (set_left(0, amount), -22), (left(0), [10, 0, 0, 0, 0]))

    def test_no_such_player(self):
        for players in (2, 3, 4):
            for player in (players, players + 1, 100, TOP):
                self.check((start(players, plain(10)), 0), (set_left(player, 5), -22))
            for player in range(players):
                self.check(
                    (start(players, plain(10)), 0), (set_left(player, 5), 0), (left(player), [5, 0, 0, 0, 0]))

    def test_time_is_not_stopped(self):
        self.check(
            (start(2, plain(10)), 0), (go(0), 0), (set_left(0, 5), -16), (set_left(1, 5), -16), (press(1), 1),
            (set_left(0, 5), -16), (set_left(1, 5), -16), (left(0), [9, 0, 0, 0, 1]), (left(1), [10, 0, 0, 0, 0]),
            (pause(1), 0), (set_left(0, 5), 0), (set_left(1, 6), 0), (left(0), [5, 0, 0, 0, 1]),
            (left(1), [6, 0, 0, 0, 0]),
        )

    def test_a_flag_has_fallen(self):
        self.check(
            (start(2, plain(10)), 0), (go(0), 0), (now(10), 100), (set_left(0, 5), -41), (set_left(1, 5), -41),
            (left(0), [0, 0, 0, 0, 0]), (left(1), [10, 0, 0, 0, 0]), (now(10), 100),
        )

    def test_what_is_wrong_is_told_first(self):
        wrong = [(set_left(2, 5), -22), (set_left(0, 0), -22), (set_left(0, MOST_MAIN + 1), -22), (set_left(2, 0), -22)]
        self.check((start(2, plain(10)), 0), *wrong, (go(0), 0), *wrong, (now(10), 100), *wrong)

    def test_of_somebody_who_is_not_to_move(self):
        begin = [start(3, plain(10)), go(0), press(2), pause(3), set_left(2, 50), set_left(0, 70)]
        self.assertEqual(
            seen(begin, 3), [[70, 0, 0, 0, 1], [9, 0, 0, 0, 0], [50, 0, 0, 0, 0], [0, 1, 3, 0]])
        self.falls(begin + [go(3)], 12, 1)
        self.falls(begin + [go(3), press(3)], 53, 2)
        self.falls(begin + [go(3), press(3), press(3)], 73, 0)

    def test_set_twice(self):
        self.falls([start(2, plain(10)), set_left(0, 50), set_left(0, 7), set_left(1, 90), go(0)], 7, 0)

    def test_time_and_turn_stay(self):
        self.check(
            (start(2, plain(10)), 0), (go(0), 0), (press(1), 1), (pause(4), 0), (set_left(1, 99), 0),
            (state(), [0, 1, 4, 0]), (now(8), 0), (set_left(1, 98), 0), (state(), [0, 1, 8, 0]),
        )


class WhatStays(ClockCase):
    def test_in_a_period(self):
        begin = [start(2, by_periods(10, 5, 2)), go(0), pause(12)]
        self.assertEqual(seen(begin, 2)[0], [3, 1, 1, 0, 0])
        for amount in (1, 2, 5, 6, 1000):
            with self.subTest(amount=amount):
                put = begin + [set_left(0, amount)]
                self.assertEqual(seen(put, 2)[0], [amount, 1, 1, 0, 0])
                self.falls(put + [go(12)], 12 + amount + 5, 0)
                self.assertEqual(seen(put + [go(12), press(12)], 2)[0], [5, 1, 1, 0, 1])
                self.assertEqual(seen(put + [go(12), now(12 + amount)], 2)[0], [5, 0, 1, 0, 0])

    def test_in_the_last_period(self):
        put = [start(2, by_periods(10, 5, 1)), go(0), pause(12), set_left(0, 40)]
        self.falls(put + [go(12)], 52, 0)
        self.falls(put + [go(12), press(13), press(13)], 18, 0)

    def test_before_a_period(self):
        put = [start(2, by_periods(10, 5, 2)), go(0), pause(4), set_left(0, 3)]
        self.assertEqual(seen(put, 2)[0], [3, 2, 0, 0, 0])
        self.assertEqual(seen(put + [go(4), press(6)], 2)[0], [1, 2, 0, 0, 1])
        self.assertEqual(seen(put + [go(4), now(7)], 2)[0], [5, 1, 1, 0, 0])
        self.falls(put + [go(4)], 4 + 3 + 10, 0)

    def test_phase_and_moves(self):
        begin = [start(2, plain(10, 1), added(20, 3, 2), by_periods(30, 5, 4)), go(0)]
        for rounds, due in ((1, [7, 0, 0, 1, 0]), (2, [7, 0, 0, 1, 1]), (3, [7, 4, 0, 2, 0]), (5, [7, 4, 0, 2, 2])):
            put = begin + [press(0), press(0)] * rounds + [pause(0), set_left(1, 7)]
            self.assertEqual(seen(put, 2)[1], due)

    def test_the_delay(self):
        begin = [start(2, delayed(10, 5)), go(0), pause(3), set_left(0, 20), go(3)]
        self.falls(begin, 5 + 20, 0)
        self.check((begin[0], 0), (go(0), 0), (pause(8), 0), (set_left(0, 20), 0), (go(8), 0), (now(27), 0),
                   (left(0), [1, 0, 0, 0, 0]), (now(28), 100))

    def test_what_is_given_back(self):
        for t, back in ((3, 3), (5, 5), (6, 5)):
            self.check(
                (start(2, given_back(10, 5)), 0), (go(0), 0), (pause(t), 0), (set_left(0, 50), 0), (go(t), 0),
                (press(t), 1), (left(0), [50 + back, 0, 0, 0, 1]),
            )

    def test_what_is_added(self):
        self.check(
            (start(2, added(10, 5)), 0), (set_left(0, MOST_MAIN), 0), (go(0), 0), (press(2), 1),
            (left(0), [MOST_MAIN + 3, 0, 0, 0, 1]),
        )

    def test_of_an_hourglass(self):
        put = [start(3, hourglass(10)), set_left(0, 4), set_left(1, 20)]
        self.assertEqual(seen(put, 3)[:3], [[4, 0, 0, 0, 0], [20, 0, 0, 0, 0], [10, 0, 0, 0, 0]])
        self.falls(put + [go(0)], 4, 0)
        self.assertEqual(
            seen(put + [go(0), press(3)], 3)[:3], [[1, 0, 0, 0, 1], [23, 0, 0, 0, 0], [10, 0, 0, 0, 0]])
