"""Point 8: state."""

from tests.helper import LATEST, ClockCase, go, now, pause, plain, press, set_left, start, state


class State(ClockCase):
    def test_before_the_first_go(self):
        self.check(
            (start(2, plain(10)), 0), (state(), [0, 0, 0, 0]), (now(5), 0), (state(), [0, 0, 5, 0]),
            (now(LATEST), 0), (state(), [0, 0, LATEST, 0]),
        )

    def test_while_time_runs(self):
        self.check(
            (start(3, plain(10)), 0), (go(4), 0), (state(), [0, 0, 4, 1]), (now(6), 0), (state(), [0, 0, 6, 1]),
            (press(7), 1), (state(), [0, 1, 7, 1]), (press(9), 2), (state(), [0, 2, 9, 1]), (press(9), 0),
            (state(), [0, 0, 9, 1]),
        )

    def test_paused(self):
        self.check(
            (start(2, plain(10)), 0), (go(4), 0), (press(5), 1), (pause(7), 0), (state(), [0, 1, 7, 0]), (now(70), 0),
            (state(), [0, 1, 70, 0]), (go(80), 0), (state(), [0, 1, 80, 1]), (pause(80), 0), (state(), [0, 1, 80, 0]),
        )

    def test_a_flag_has_fallen(self):
        for players in (2, 3, 4):
            for player in range(players):
                for last in (now, press, pause):
                    with self.subTest(players=players, player=player, last=last.__name__):
                        self.check(
                            (start(players, plain(10)), 0), (go(0), 0),
                            *[(press(0), k + 1) for k in range(player)],
                            (now(9), 0), (state(), [0, player, 9, 1]),
                            (last(25), 100 + player), (state(), [100 + player, player, 25, 0]),
                            (now(40), 100 + player), (state(), [100 + player, player, 40, 0]),
                        )

    def test_it_tells_nothing_that_nobody_let_pass(self):
        self.check(
            (start(2, plain(10)), 0), (go(0), 0), (state(), [0, 0, 0, 1]), (go(500), -17), (state(), [0, 0, 0, 1]),
            (now(10), 100), (state(), [100, 0, 10, 0]),
        )

    def test_behind_another_start(self):
        again = [(start(3, plain(20)), 0), (state(), [0, 0, 0, 0])]
        begin = [(start(2, plain(10)), 0), (go(3), 0), (press(4), 1)]
        self.check(*begin, *again)
        self.check(*begin, (pause(6), 0), (set_left(0, 9), 0), *again)
        self.check(*begin, (now(20), 101), (state(), [101, 1, 20, 0]), *again)
