"""The corners that the document names."""

from playclocks.clocks import Clocks
from tests.helper import (
    LATEST, ClockCase, added, ask, by_periods, delayed, given_back, go, hourglass, now, plain, press, start,
)


class Corners(ClockCase):
    def test_all_used_up_just_when_it_is_pressed(self):
        for phase, t in ((plain(50), 50), (added(50, 9), 50), (given_back(50, 9), 50), (delayed(50, 9), 59),
                         (by_periods(50, 9, 2), 68), (hourglass(50), 50)):
            with self.subTest(phase=phase):
                begin = [(start(2, phase), 0), (go(0), 0)]
                self.check(*begin, (press(t - 1), 1))
                self.check(*begin, (press(t), 100), (now(t), 100), (press(t), -41))
                self.check(*begin, (now(t), 100), (press(t), -41))

    def test_all_used_up_just_when_a_phase_would_end(self):
        for first in (plain(50, 1), added(50, 9, 1), given_back(50, 9, 1)):
            self.check((start(2, first, plain(1000)), 0), (go(0), 0), (press(50), 100), (now(50), 100))

    def test_a_period_used_up_just_when_it_is_pressed(self):
        begin = [start(2, by_periods(50, 9, 2)), go(0)]
        self.falls(begin + [press(50), press(50)], 50 + 18, 0)
        self.falls(begin + [press(59), press(59)], 59 + 9, 0)

    def test_a_delay_looked_at_twice(self):
        begin = [start(2, delayed(50, 20)), go(0)]
        for looks in ([5, 10], [20, 20], [19, 21], [20, 40], [5, 5, 5], list(range(0, 60))):
            with self.subTest(looks=looks):
                seen = begin + [now(t) for t in looks]
                self.falls(seen, 70, 0)
                self.falls(seen + [press(60), press(60)], 60 + 30, 0)

    def test_the_last_period(self):
        begin = [start(2, by_periods(50, 9, 1)), go(0)]
        self.falls(begin, 59, 0)
        self.check((begin[0], 0), (go(0), 0), (now(50), 0), (now(58), 0), (now(59), 100))
        again = begin + [press(58), press(58)]
        for k in range(4):
            self.falls(again, 58 + 8 * k + 9, 0)
            again += [press(58 + 8 * (k + 1)), press(58 + 8 * (k + 1))]

    def test_a_period_looked_at_as_it_begins(self):
        self.falls([start(2, by_periods(50, 9, 2)), go(0), now(50), now(50), now(59), now(59)], 68, 0)

    def test_a_phase_s_last_move_with_time_given(self):
        for first, left in ((added(100, 9, 1), 100 - 30 + 9), (given_back(100, 9, 1), 100 - 30 + 9),
                            (given_back(100, 40, 1), 100), (by_periods(20, 15, 2, 1), 15)):
            with self.subTest(first=first):
                self.falls([start(2, first, plain(500)), go(0), press(30), press(30)], 30 + left + 500, 0)

    def test_two_flags_at_one_moment(self):
        for players in (2, 3, 4):
            with self.subTest(players=players):
                self.check(
                    (start(players, plain(1)), 0), (go(0), 0), (press(0), 1), (press(1), 101), (now(1), 101),
                    (now(2), 101), (now(LATEST), 101),
                )
        self.check((start(2, plain(10)), 0), (go(0), 0), (press(9), 1), (press(18), 0), (press(19), 100), (now(20), 100))

    def test_an_hourglass_for_three(self):
        begin = [start(3, hourglass(100)), go(0), press(30)]
        self.falls(begin, 30 + 130, 1)
        self.falls(begin + [press(30)], 30 + 100, 2)
        self.falls(begin + [press(30), press(30)], 30 + 70, 0)
        on = begin + [press(90), press(190)]
        self.falls(on, 190 + 70 + 100, 0)
        self.falls(on + [press(190)], 190 + 70, 1)
        self.falls(on + [press(190), press(190)], 190 + 60, 2)

    def test_an_hourglass_for_four(self):
        begin = [start(4, hourglass(100)), go(0), press(10), press(30), press(60), press(100)]
        for player, left in enumerate((100 - 10 + 40, 100 - 20 + 10, 100 - 30 + 20, 100 - 40 + 30)):
            self.falls(begin + [press(100)] * player, 100 + left, player)

    def test_all_clocks_stand_when_a_flag_falls(self):
        # The four calls don't tell what is left to others, so it is read from the object.
        for t in (100, 101, LATEST):
            clocks = Clocks()
            clocks.start(3, hourglass(100))
            clocks.go(0)
            self.assertEqual(clocks.now(t), 100)
            self.assertEqual(clocks.now(LATEST), 100)
            self.assertEqual([player.time_left for player in clocks.players], [0, 200, 100])
            self.assertFalse(clocks.running)

    def test_time_that_does_not_go_on(self):
        for phase, left in ((plain(1), 1), (added(1, 3), 1 + 3 * 5), (given_back(1, 3), 1), (delayed(1, 3), 4),
                            (by_periods(1, 3, 2), 7), (hourglass(1), 1)):
            with self.subTest(phase=phase):
                calls = [start(2, phase), go(7)] + [now(7), press(7), now(7), press(7)] * 5
                self.assertEqual(ask(calls)[2:], [0, 1, 0, 0] * 5)
                self.falls(calls, 7 + left, 0)
