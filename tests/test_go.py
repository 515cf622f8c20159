"""Point 2: go."""

from tests.helper import LATEST, TOP, ClockCase, go, now, plain, press, start


class Go(ClockCase):
    def test_it_runs_from_t_on(self):
        for t in (0, 1, 77, LATEST - 10):
            with self.subTest(t=t):
                self.falls([start(2, plain(10)), go(t)], t + 10, 0)

    def test_nothing_ran_while_time_was_stopped(self):
        self.falls([start(2, plain(10)), now(5), now(500), go(1000)], 1010, 0)
        self.falls([start(2, plain(10)), now(500), go(500)], 510, 0)

    def test_t_before_the_time(self):
        self.check((start(2, plain(10)), 0), (now(50), 0), (go(49), -22), (go(0), -22), (go(50), 0))

    def test_t_at_its_highest(self):
        self.check(
            (start(2, plain(10)), 0), (go(LATEST + 1), -22), (go(TOP), -22), (go(LATEST), 0), (press(LATEST), 1),
            (now(LATEST), 0),
        )

    def test_time_is_not_stopped(self):
        self.check((start(2, plain(10)), 0), (go(3), 0), (go(3), -17), (go(4), -17), (go(LATEST), -17))

    def test_wrong_t_is_told_ahead_of_not_stopped(self):
        self.check((start(2, plain(10)), 0), (go(3), 0), (go(2), -22), (go(LATEST + 1), -22))

    def test_a_flag_has_fallen(self):
        self.check((start(2, plain(10)), 0), (go(0), 0), (now(10), 100), (go(10), -41), (go(LATEST), -41))

    def test_wrong_t_is_told_ahead_of_a_fallen_flag(self):
        self.check((start(2, plain(10)), 0), (go(0), 0), (now(20), 100), (go(19), -22), (go(LATEST + 1), -22))

    def test_a_refusal_leaves_the_time(self):
        self.check(
            (start(2, plain(10)), 0), (go(LATEST + 1), -22), (press(0), -16), (go(3), 0), (go(9), -17), (press(5), 1),
            (go(1000), -17), (now(14), 0), (now(15), 101), (go(500), -41), (now(15), 101),
        )

    def test_a_refusal_lets_no_flag_fall(self):
        self.check((start(2, plain(10)), 0), (go(0), 0), (go(10), -17), (go(11), -17), (press(9), 1))
