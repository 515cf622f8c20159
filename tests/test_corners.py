"""The corners that the document names."""

from tests.helper import (
    LATEST, ClockCase, added, ask, by_periods, delayed, given_back, go, hourglass, left, now, pause, plain, press,
    seen, set_left, start, state,
)


def looks_at(times):
    return [call for t in times for call in (now(t), left(0), left(1), state())]


class Corners(ClockCase):
    def test_all_used_up_just_when_it_is_pressed(self):
        for phase, t in ((plain(50), 50), (added(50, 9), 50), (given_back(50, 9), 50), (delayed(50, 9), 59),
                         (by_periods(50, 9, 2), 68), (hourglass(50), 50)):
            with self.subTest(phase=phase):
                begin = [(start(2, phase), 0), (go(0), 0)]
                self.check(*begin, (press(t - 1), 1))
                self.check(*begin, (press(t), 100), (now(t), 100), (press(t), -41))
                self.check(*begin, (now(t), 100), (press(t), -41))
                self.check(*begin, (press(t), 100), (state(), [100, 0, t, 0]), (left(0), [0, 0, phase[4] // 2, 0, 0]))

    def test_all_used_up_just_when_a_phase_would_end(self):
        for first in (plain(50, 1), added(50, 9, 1), given_back(50, 9, 1)):
            self.check((start(2, first, plain(1000)), 0), (go(0), 0), (press(50), 100), (now(50), 100))

    def test_a_period_used_up_just_when_it_is_pressed(self):
        begin = [start(2, by_periods(50, 9, 2)), go(0)]
        self.falls(begin + [press(50), press(50)], 50 + 18, 0)
        self.falls(begin + [press(59), press(59)], 59 + 9, 0)

    def test_a_delay_looked_at_twice(self):
        begin = [start(2, delayed(50, 20)), go(0)]
        for looks in ([5, 10], [20, 20], [19, 21], [20, 40], [5, 5, 5], list(range(0, 60))):
            with self.subTest(looks=looks):
                looked_at = begin + looks_at(looks)
                self.falls(looked_at, 70, 0)
                self.falls(looked_at + [press(60), press(60)], 60 + 30, 0)
                self.assertEqual(seen(looked_at + [now(61)], 2)[0], [9, 0, 0, 0, 0])

    def test_the_last_period(self):
        begin = [start(2, by_periods(50, 9, 1)), go(0)]
        self.falls(begin, 59, 0)
        self.check((begin[0], 0), (go(0), 0), (now(50), 0), (now(58), 0), (now(59), 100))
        self.check((begin[0], 0), (go(0), 0), (now(49), 0), (left(0), [1, 1, 0, 0, 0]), (now(50), 0),
                   (left(0), [9, 0, 1, 0, 0]), (now(58), 0), (left(0), [1, 0, 1, 0, 0]), (press(58), 1),
                   (left(0), [9, 0, 1, 0, 1]))
        again = begin + [press(58), press(58)]
        for k in range(4):
            self.falls(again, 58 + 8 * k + 9, 0)
            again += [press(58 + 8 * (k + 1)), press(58 + 8 * (k + 1))]

    def test_a_period_looked_at_as_it_begins(self):
        self.falls([start(2, by_periods(50, 9, 2)), go(0), now(50), now(50), now(59), now(59)], 68, 0)

    def test_a_phase_s_last_move_with_time_given(self):
        for first, kept in ((added(100, 9, 1), 100 - 30 + 9), (given_back(100, 9, 1), 100 - 30 + 9),
                            (given_back(100, 40, 1), 100), (by_periods(20, 15, 2, 1), 15)):
            with self.subTest(first=first):
                calls = [start(2, first, plain(500)), go(0), press(30), press(30)]
                self.assertEqual(seen(calls, 2)[0], [kept + 500, 0, 0, 1, 0])
                self.falls(calls, 30 + kept + 500, 0)

    def test_two_flags_at_one_moment(self):
        for players in (2, 3, 4):
            with self.subTest(players=players):
                self.check(
                    (start(players, plain(1)), 0), (go(0), 0), (press(0), 1), (press(1), 101), (now(1), 101),
                    (now(2), 101), (now(LATEST), 101), (left(0), [1, 0, 0, 0, 1]), (left(1), [0, 0, 0, 0, 0]),
                )
        self.check(
            (start(2, plain(10)), 0), (go(0), 0), (press(9), 1), (press(18), 0), (press(19), 100), (now(20), 100),
        )

    def test_an_hourglass_for_three(self):
        begin = [start(3, hourglass(100)), go(0), press(30)]
        self.falls(begin, 30 + 130, 1)
        self.falls(begin + [press(30)], 30 + 100, 2)
        self.falls(begin + [press(30), press(30)], 30 + 70, 0)
        on = begin + [press(90), press(190)]
        self.falls(on, 190 + 70 + 100, 0)
        self.falls(on + [press(190)], 190 + 70, 1)
        self.falls(on + [press(190), press(190)], 190 + 60, 2)

    def test_an_hourglass_for_four(self):
        begin = [start(4, hourglass(100)), go(0), press(10), press(30), press(60), press(100)]
        for player, kept in enumerate((100 - 10 + 40, 100 - 20 + 10, 100 - 30 + 20, 100 - 40 + 30)):
            self.falls(begin + [press(100)] * player, 100 + kept, player)

    def test_an_hourglass_for_three_seen(self):
        self.check(
            (start(3, hourglass(100)), 0), (go(0), 0), (now(30), 0), (left(0), [70, 0, 0, 0, 0]),
            (left(1), [130, 0, 0, 0, 0]), (left(2), [100, 0, 0, 0, 0]), (press(40), 1), (press(90), 2),
            (left(0), [60, 0, 0, 0, 1]), (left(1), [90, 0, 0, 0, 1]), (left(2), [150, 0, 0, 0, 0]), (press(190), 0),
            (left(0), [160, 0, 0, 0, 1]), (left(1), [90, 0, 0, 0, 1]), (left(2), [50, 0, 0, 0, 1]), (press(400), 100),
            (left(0), [0, 0, 0, 0, 1]), (left(1), [250, 0, 0, 0, 1]), (left(2), [50, 0, 0, 0, 1]),
        )

    def test_all_clocks_stand_when_a_flag_falls(self):
        for t in (100, 101, LATEST):
            calls = [start(3, hourglass(100)), go(0), now(t), now(LATEST)]
            self.assertEqual(
                seen(calls, 3), [[0, 0, 0, 0, 0], [200, 0, 0, 0, 0], [100, 0, 0, 0, 0], [100, 0, LATEST, 0]])

    def test_a_pause_in_a_delay(self):
        begin = [start(2, delayed(50, 20)), go(0)]
        for pauses in ([(8, 30)], [(0, 5), (6, 9)], [(20, 40)], [(5, 5), (5, 5), (5, 100)], [(25, 90)]):
            with self.subTest(pauses=pauses):
                calls, stood = list(begin), 0
                for stops, goes in pauses:
                    calls += [pause(stops + stood), left(0), now(stops + stood), go(goes + stood)]
                    stood += goes - stops
                self.falls(calls, stood + 70, 0)
                self.assertEqual(seen(calls + [press(stood + 30)], 2)[0], [40, 0, 0, 0, 1])

    def test_set_in_a_period(self):
        begin = [start(2, by_periods(50, 9, 2)), go(0), pause(53), set_left(0, 4), go(60)]
        self.assertEqual(seen(begin, 2)[0], [4, 1, 1, 0, 0])
        self.falls(begin, 60 + 4 + 9, 0)
        self.assertEqual(seen(begin + [press(63)], 2)[0], [9, 1, 1, 0, 1])
        self.assertEqual(seen(begin + [press(64)], 2)[0], [9, 0, 1, 0, 1])
        self.assertEqual(seen(begin + [press(73)], 2)[0], [0, 0, 1, 0, 0])

    def test_time_that_does_not_go_on(self):
        for phase, kept in ((plain(1), 1), (added(1, 3), 1 + 3 * 5), (given_back(1, 3), 1), (delayed(1, 3), 4),
                            (by_periods(1, 3, 2), 7), (hourglass(1), 1)):
            with self.subTest(phase=phase):
                calls = [start(2, phase), go(7)] + [now(7), press(7), now(7), press(7)] * 5
                self.assertEqual(ask(calls)[2:], [0, 1, 0, 0] * 5)
                self.falls(calls, 7 + kept, 0)
                self.assertEqual(seen(calls, 2)[2], [0, 0, 7, 1])
