"""Point 3: now."""

from tests.helper import LATEST, TOP, ClockCase, go, hourglass, now, plain, press, start


class Now(ClockCase):
    def test_time_is_stopped(self):
        self.check((start(2, plain(10)), 0), (now(0), 0), (now(10), 0), (now(LATEST), 0), (now(LATEST), 0))

    def test_time_is_not_stopped(self):
        self.check((start(2, plain(10)), 0), (go(0), 0), (now(0), 0), (now(9), 0), (now(10), 100))

    def test_whose_flag(self):
        for players in (2, 3, 4):
            for player in range(players):
                with self.subTest(players=players, player=player):
                    calls = [start(players, plain(10)), go(0)] + [press(1)] * player
                    self.falls(calls, 10 if player == 0 else 11, player)

    def test_a_flag_that_fell_stays_fallen(self):
        self.check(
            (start(2, plain(10)), 0), (go(0), 0), (press(2), 1), (now(12), 101), (now(12), 101), (now(13), 101),
            (now(LATEST), 101), (press(LATEST), -41), (now(LATEST), 101),
        )

    def test_time_goes_on_when_a_flag_has_fallen(self):
        self.check(
            (start(2, plain(10)), 0), (go(0), 0), (now(40), 100), (now(39), -22), (now(10), -22), (now(60), 100),
            (now(59), -22), (now(60), 100),
        )

    def test_wrong_t(self):
        self.check(
            (start(2, plain(10)), 0), (now(LATEST + 1), -22), (now(5), 0), (now(4), -22), (go(5), 0), (now(4), -22),
            (now(8), 0), (now(7), -22), (now(0), -22), (now(LATEST + 1), -22), (now(TOP), -22), (now(8), 0),
            (now(14), 0), (now(15), 100), (now(14), -22), (now(LATEST + 1), -22), (now(LATEST), 100),
        )

    def test_time_that_does_not_go_on(self):
        self.check(
            (start(2, plain(1)), 0), (go(5), 0), (now(5), 0), (now(5), 0), (press(5), 1), (now(5), 0), (press(5), 0),
            (now(5), 0), (now(6), 100), (now(6), 100),
        )

    def test_looking_in_between_changes_nothing(self):
        for kind in (plain(40), hourglass(40)):
            seldom = [start(3, kind), go(0), press(13), press(20)]
            often = [start(3, kind), go(0)] + [now(t) for t in range(14)] + [press(13)]
            often += [now(t) for t in range(13, 21)] + [press(20)]
            for calls in (seldom, often):
                self.falls(calls, 67 if kind[2] == 5 else 60, 2)
