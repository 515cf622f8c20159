"""Point 5: pause."""

from tests.helper import (
    LATEST, TOP, ClockCase, added, by_periods, delayed, given_back, go, hourglass, left, now, pause, plain, press,
    seen, start, state,
)


class Pause(ClockCase):
    def test_time_is_stopped_by_it(self):
        self.check(
            (start(2, plain(10)), 0), (go(3), 0), (state(), [0, 0, 3, 1]), (pause(5), 0), (state(), [0, 0, 5, 0]),
            (left(0), [8, 0, 0, 0, 0]), (left(1), [10, 0, 0, 0, 0]),
        )

    def test_nothing_runs_till_go(self):
        for phase in (plain(10), added(10, 3), given_back(10, 3), by_periods(10, 3, 2), hourglass(10)):
            with self.subTest(phase=phase):
                begin = [start(3, phase), go(0), press(1), pause(4)]
                before = seen(begin, 3)
                for t in (4, 5, 14, LATEST):
                    self.assertEqual(seen(begin + [now(t)], 3), before[:3] + [[0, 1, t, 0]])
                    self.assertEqual(seen(begin + [now(4), now(t), go(t)], 3), before[:3] + [[0, 1, t, 1]])

    def test_it_runs_on_behind_go(self):
        self.falls([start(2, plain(10)), go(0), pause(4), go(100)], 106, 0)
        self.falls([start(2, plain(10)), go(0), pause(4), now(50), go(100), pause(105), go(200)], 201, 0)
        self.falls([start(2, plain(10)), go(0), press(2), pause(4), go(100)], 108, 1)

    def test_t_before_the_time(self):
        self.check(
            (start(2, plain(10)), 0), (go(5), 0), (pause(4), -22), (pause(0), -22), (now(8), 0), (pause(7), -22),
            (pause(8), 0), (state(), [0, 0, 8, 0]), (left(0), [7, 0, 0, 0, 0]),
        )

    def test_t_at_its_highest(self):
        self.check(
            (start(2, plain(10)), 0), (go(LATEST - 9), 0), (pause(LATEST + 1), -22), (pause(TOP), -22),
            (pause(LATEST), 0), (left(0), [1, 0, 0, 0, 0]), (go(LATEST), 0), (pause(LATEST), 0),
        )

    def test_time_is_stopped_already(self):
        self.check(
            (start(2, plain(10)), 0), (pause(0), -16), (pause(LATEST), -16), (go(5), 0), (pause(6), 0), (pause(6), -16),
            (pause(7), -16), (pause(LATEST), -16), (press(6), -16), (press(99), -16), (state(), [0, 0, 6, 0]),
        )

    def test_wrong_t_is_told_ahead_of_stopped(self):
        self.check(
            (start(2, plain(10)), 0), (now(5), 0), (pause(4), -22), (pause(LATEST + 1), -22), (pause(5), -16),
        )

    def test_a_flag_has_fallen(self):
        self.check((start(2, plain(10)), 0), (go(0), 0), (now(20), 100), (pause(20), -41), (pause(LATEST), -41))

    def test_wrong_t_is_told_ahead_of_a_fallen_flag(self):
        self.check((start(2, plain(10)), 0), (go(0), 0), (now(20), 100), (pause(19), -22), (pause(LATEST + 1), -22))

    def test_a_flag_falls_by_the_pause(self):
        for t in (10, 11, LATEST):
            self.check(
                (start(2, plain(10)), 0), (go(0), 0), (pause(t), 100), (state(), [100, 0, t, 0]), (pause(t), -41),
                (go(t), -41), (now(t), 100), (left(0), [0, 0, 0, 0, 0]), (left(1), [10, 0, 0, 0, 0]),
            )
        self.check((start(2, plain(10)), 0), (go(0), 0), (pause(9), 0), (left(0), [1, 0, 0, 0, 0]))
        self.check((start(4, plain(10)), 0), (go(0), 0), (press(1), 1), (press(2), 2), (press(3), 3), (pause(13), 103))

    def test_it_is_no_move(self):
        self.check(
            (start(2, added(10, 5, 2), plain(100)), 0), (go(0), 0), (pause(4), 0), (go(4), 0), (pause(5), 0),
            (left(0), [5, 0, 0, 0, 0]), (state(), [0, 0, 5, 0]), (go(6), 0), (press(7), 1), (left(0), [9, 0, 0, 0, 1]),
        )

    def test_the_time_does_not_go_on(self):
        calls = [start(2, delayed(10, 5)), go(0)] + [pause(0), go(0)] * 20
        self.falls(calls, 15, 0)


class UsedBeforeThePause(ClockCase):
    def test_the_delay_goes_on(self):
        for t in (0, 1, 4, 5):
            self.check(
                (start(2, delayed(10, 5)), 0), (go(0), 0), (pause(t), 0), (left(0), [10, 0, 0, 0, 0]), (go(100), 0),
                (now(100 + 5 - t), 0), (left(0), [10, 0, 0, 0, 0]), (now(100 + 6 - t), 0), (left(0), [9, 0, 0, 0, 0]),
            )
        self.falls([start(2, delayed(10, 5)), go(0), pause(7), go(100)], 108, 0)

    def test_what_is_given_back(self):
        for spans, used in (((3, 4), 7), ((4, 4), 8), ((5, 4), 9), ((9, 0), 9), ((0, 9), 9), ((20, 30), 50)):
            with self.subTest(spans=spans):
                first, second = spans
                self.check(
                    (start(2, given_back(100, 8)), 0), (go(0), 0), (pause(first), 0),
                    (left(0), [100 - first, 0, 0, 0, 0]), (go(70), 0), (press(70 + second), 1),
                    (left(0), [100 - used + min(used, 8), 0, 0, 0, 1]),
                )

    def test_the_time_of_the_pause_itself_is_not_used(self):
        self.check(
            (start(2, given_back(100, 50)), 0), (go(0), 0), (pause(60), 0), (now(500), 0), (go(900), 0),
            (press(900), 1), (left(0), [90, 0, 0, 0, 1]),
        )
        self.check(
            (start(2, delayed(100, 50)), 0), (go(0), 0), (pause(30), 0), (now(500), 0), (go(900), 0),
            (press(920), 1), (left(0), [100, 0, 0, 0, 1]),
        )

    def test_a_move_behind_it_has_its_own(self):
        self.check(
            (start(2, delayed(10, 5)), 0), (go(0), 0), (pause(4), 0), (go(4), 0), (press(5), 1), (now(10), 0),
            (left(1), [10, 0, 0, 0, 0]), (now(11), 0), (left(1), [9, 0, 0, 0, 0]),
        )

    def test_in_a_period(self):
        self.check(
            (start(2, by_periods(10, 5, 2)), 0), (go(0), 0), (pause(12), 0), (left(0), [3, 1, 1, 0, 0]), (go(50), 0),
            (now(52), 0), (left(0), [1, 1, 1, 0, 0]), (pause(53), 0), (left(0), [5, 0, 1, 0, 0]), (go(53), 0),
            (press(57), 1), (left(0), [5, 0, 1, 0, 1]),
        )

    def test_of_an_hourglass(self):
        self.check(
            (start(2, hourglass(10)), 0), (go(0), 0), (pause(4), 0), (left(0), [6, 0, 0, 0, 0]),
            (left(1), [14, 0, 0, 0, 0]), (now(40), 0), (left(1), [14, 0, 0, 0, 0]), (go(50), 0), (press(51), 1),
            (left(0), [5, 0, 0, 0, 1]), (left(1), [15, 0, 0, 0, 0]),
        )
