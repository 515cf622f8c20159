"""Point 1: start."""

from tests.helper import (
    ADDED, BY_PERIODS, DELAYED, GIVEN_BACK, HOURGLASS, LATEST, MOST_INC, MOST_MAIN, PLAIN, TOP,
    ClockCase, added, ask, by_periods, go, hourglass, now, plain, press, row, start,
)

KINDS_WITH_INC = (ADDED, GIVEN_BACK, DELAYED, BY_PERIODS)
KINDS_NOT_ALONE = (PLAIN,) + KINDS_WITH_INC


def fields(kind, **change):
    made = {
        "main": 1000,
        "kind": kind,
        "inc": 10 if kind in KINDS_WITH_INC else 0,
        "periods": 3 if kind == BY_PERIODS else 0,
    }
    made.update(change)
    return made


def as_only(kind, **change):
    return [row(**fields(kind, **{"moves": 0, **change}))]


def as_last(kind, **change):
    return [plain(moves=5)] + as_only(kind, **change)


def as_third(kind, **change):
    return [plain(moves=5)] + as_last(kind, **change)


def as_first(kind, **change):
    return [row(**fields(kind, **{"moves": 5, **change})), plain()]


def as_middle(kind, **change):
    return [plain(moves=5)] + as_first(kind, **change)


PLACES = (as_only, as_last, as_third, as_first, as_middle)
LAST_PLACES = (as_only, as_last, as_third)


def every_place():
    for kind in KINDS_NOT_ALONE:
        for place in PLACES:
            yield kind, place
    yield HOURGLASS, as_only


class Start(ClockCase):
    def answered(self, due, players, rows):
        with self.subTest(players=players, rows=rows):
            self.assertEqual(ask([start(players, *rows)]), [due])

    def test_players(self):
        for players in (2, 3, 4):
            self.answered(0, players, [plain()])
        for players in (0, 1, 5, 6, TOP):
            self.answered(-22, players, [plain()])

    def test_how_many_phases(self):
        self.answered(-22, 2, [])
        for count in range(1, 9):
            rows = [plain(moves=1)] * (count - 1) + [plain()]
            self.answered(0 if count <= 3 else -22, 2, rows)

    def test_every_kind_in_every_place(self):
        for kind, place in every_place():
            self.answered(0, 2, place(kind))

    def test_moves_of_a_last_phase(self):
        for kind, place in every_place():
            if place in LAST_PLACES:
                for moves in (1, 2, 200, 201, TOP):
                    self.answered(-22, 2, place(kind, moves=moves))

    def test_moves_of_a_phase_that_is_not_the_last(self):
        for kind, place in every_place():
            if place not in LAST_PLACES:
                for moves in (1, 200):
                    self.answered(0, 2, place(kind, moves=moves))
                for moves in (0, 201, TOP):
                    self.answered(-22, 2, place(kind, moves=moves))

    def test_main(self):
        for kind, place in every_place():
            for main in (1, MOST_MAIN):
                self.answered(0, 2, place(kind, main=main))
            for main in (0, MOST_MAIN + 1, TOP):
                self.answered(-22, 2, place(kind, main=main))

    def test_kind(self):
        for place in PLACES:
            for kind in (6, 7, TOP):
                for inc in (0, 1):
                    for periods in (0, 1):
                        self.answered(-22, 2, place(kind, inc=inc, periods=periods))

    def test_inc(self):
        for kind, place in every_place():
            if kind in KINDS_WITH_INC:
                right, wrong = (1, MOST_INC), (0, MOST_INC + 1, TOP)
            else:
                right, wrong = (0,), (1, MOST_INC, TOP)
            for inc in right:
                self.answered(0, 2, place(kind, inc=inc))
            for inc in wrong:
                self.answered(-22, 2, place(kind, inc=inc))

    def test_periods(self):
        for kind, place in every_place():
            if kind == BY_PERIODS:
                right, wrong = (1, 20), (0, 21, TOP)
            else:
                right, wrong = (0,), (1, 20, TOP)
            for periods in right:
                self.answered(0, 2, place(kind, periods=periods))
            for periods in wrong:
                self.answered(-22, 2, place(kind, periods=periods))

    def test_an_hourglass_is_the_only_phase(self):
        for place in PLACES:
            self.answered(0 if place == as_only else -22, 2, place(HOURGLASS))
        for first in (plain(moves=5), hourglass(1000)):
            self.answered(-22, 2, [first, hourglass(1000)])

    def test_both_wrong(self):
        self.answered(-22, 1, [])
        self.answered(-22, 5, [plain(main=0)])


class AfterStart(ClockCase):
    def test_time_is_0_and_stopped_and_player_0_moves(self):
        self.check((start(2, plain(10)), 0), (press(0), -16), (go(0), 0), (press(0), 1))
        self.falls([start(2, plain(10)), go(0)], 10, 0)

    def test_each_player_begins_alike(self):
        for players in (2, 3, 4):
            for player in range(players):
                calls = [start(players, by_periods(10, 5, 2)), go(0)] + [press(0)] * player
                self.falls(calls, 20, player)

    def test_refusals_ahead_of_the_first_start(self):
        self.check((start(1, plain()), -22), (start(2), -22), (start(2, plain(7)), 0), (go(0), 0), (now(7), 100))

    def test_a_refused_start_leaves_a_running_clock(self):
        calls = [start(3, added(10, 4)), go(5), press(8), now(9)]
        for wrong in (start(1, plain()), start(2), start(2, plain(0)), start(2, plain(5), plain(5))):
            with self.subTest(wrong=wrong):
                self.assertEqual(ask(calls + [wrong, now(8), press(9)])[-3:], [-22, -22, 2])
                self.falls(calls + [wrong], 18, 1)
                self.falls(calls + [wrong, press(10), press(10)], 21, 0)

    def test_a_refused_start_leaves_stopped_time(self):
        self.check(
            (start(2, plain(10)), 0), (now(50), 0), (start(5, plain()), -22), (press(50), -16), (now(49), -22),
            (go(60), 0), (now(69), 0), (now(70), 100),
        )

    def test_a_refused_start_leaves_a_fallen_flag(self):
        self.check(
            (start(2, plain(10)), 0), (go(0), 0), (press(3), 1), (now(13), 101), (start(0, plain()), -22),
            (now(13), 101), (go(13), -41), (press(13), -41), (now(12), -22),
        )

    def test_start_again_while_it_runs(self):
        self.check(
            (start(2, plain(10)), 0), (go(100), 0), (press(105), 1), (start(3, plain(20)), 0), (press(0), -16),
            (go(0), 0), (press(19), 1), (press(19), 2), (press(38), 0), (now(38), 0), (now(39), 100),
        )

    def test_start_again_when_a_flag_has_fallen(self):
        self.check(
            (start(2, plain(10)), 0), (go(0), 0), (now(LATEST), 100), (start(2, plain(10)), 0), (now(0), 0),
            (go(1), 0), (press(2), 1), (now(11), 0), (now(12), 101),
        )

    def test_start_again_forgets_what_was_used(self):
        for again in (row(0, 10, DELAYED, 5), row(0, 10, GIVEN_BACK, 5)):
            fresh = [start(2, again), go(4), press(8), press(8), now(14)]
            calls = [start(2, row(0, 10, DELAYED, 5)), go(0), now(4)] + fresh
            self.assertEqual(ask(calls)[-5:], ask(fresh))
        self.falls([start(2, row(0, 10, DELAYED, 5)), go(0), now(4), start(2, row(0, 10, DELAYED, 5)), go(0)], 15, 0)

    def test_start_again_forgets_phases_moves_and_periods(self):
        rows = [by_periods(3, 2, 2, moves=2), plain(50)]
        played = [start(2, *rows), go(0), press(5), press(5), press(5)]
        fresh = [start(2, *rows), go(0)]
        self.falls(played + fresh, 7, 0)
        self.falls(played + fresh + [press(0), press(0)], 7, 0)
        self.falls(played + fresh + [press(0), press(0), press(0), press(0)], 53, 0)
