"""Point 7: left."""

from playclocks.clocks import Clocks
from tests.helper import (
    LATEST, MOST_INC, MOST_MAIN, TOP, ClockCase, added, ask, by_periods, delayed, given_back, go, hourglass, left,
    now, pause, plain, press, seen, start,
)


class Left(ClockCase):
    def test_at_first(self):
        for players in (2, 3, 4):
            for phase in (plain(10), added(10, 3), given_back(10, 3), delayed(10, 3), hourglass(10)):
                self.assertEqual(seen([start(players, phase)], players)[:-1], [[10, 0, 0, 0, 0]] * players)
            self.assertEqual(seen([start(players, by_periods(10, 3, 7))], players)[:-1], [[10, 7, 0, 0, 0]] * players)
        self.check((start(2, plain(MOST_MAIN)), 0), (left(1), [MOST_MAIN, 0, 0, 0, 0]))

    def test_no_such_player(self):
        for players in (2, 3, 4):
            for player in (players, players + 1, 2 ** 31, TOP):
                begin = [(start(players, plain(10)), 0), (left(player), -22)]
                self.check(*begin, (go(0), 0), (left(player), -22), (now(10), 100), (left(player), -22))

    def test_of_the_players_that_are_there_now(self):
        self.check(
            (start(4, plain(10)), 0), (left(3), [10, 0, 0, 0, 0]), (start(2, plain(20)), 0), (left(3), -22),
            (left(2), -22), (left(1), [20, 0, 0, 0, 0]), (start(1, plain(20)), -22), (left(1), [20, 0, 0, 0, 0]),
            (start(3, plain(30)), 0), (left(2), [30, 0, 0, 0, 0]),
        )

    def test_moves_are_told_modulo(self):
        # No line is long enough to bring so many moves.
        clocks = Clocks()
        clocks.start(2, plain(10))
        for moves, due in ((2 ** 32 - 1, 2 ** 32 - 1), (2 ** 32, 0), (2 ** 32 + 5, 5)):
            clocks.players[1].moves = moves
            self.assertEqual(clocks.left(1), [10, 0, 0, 0, due])


class Kinds(ClockCase):
    def seen_of_0(self, phase, *calls):
        return seen([start(3, phase), go(0), *calls], 3)[0]

    def test_while_it_runs_and_while_it_is_stopped(self):
        rows = (
            (plain(50), 20, [30, 0, 0, 0, 0]),
            (added(50, 9), 20, [30, 0, 0, 0, 0]),
            (given_back(50, 9), 20, [30, 0, 0, 0, 0]),
            (delayed(50, 9), 8, [50, 0, 0, 0, 0]),
            (delayed(50, 9), 9, [50, 0, 0, 0, 0]),
            (delayed(50, 9), 10, [49, 0, 0, 0, 0]),
            (delayed(50, 9), 20, [39, 0, 0, 0, 0]),
            (by_periods(50, 9, 3), 49, [1, 3, 0, 0, 0]),
            (by_periods(50, 9, 3), 50, [9, 2, 1, 0, 0]),
            (by_periods(50, 9, 3), 58, [1, 2, 1, 0, 0]),
            (by_periods(50, 9, 3), 59, [9, 1, 1, 0, 0]),
            (by_periods(50, 9, 3), 76, [1, 0, 1, 0, 0]),
            (hourglass(50), 20, [30, 0, 0, 0, 0]),
        )
        for phase, t, due in rows:
            with self.subTest(phase=phase, t=t):
                self.assertEqual(self.seen_of_0(phase, now(t)), due)
                self.assertEqual(self.seen_of_0(phase, pause(t)), due)
                self.assertEqual(self.seen_of_0(phase, pause(t), now(t + 500)), due)
                self.assertEqual(self.seen_of_0(phase, pause(t), go(t + 500)), due)

    def test_behind_a_move(self):
        rows = (
            (plain(50), 20, [30, 0, 0, 0, 1]),
            (added(50, 9), 20, [39, 0, 0, 0, 1]),
            (added(50, 9), 0, [59, 0, 0, 0, 1]),
            (given_back(50, 9), 8, [50, 0, 0, 0, 1]),
            (given_back(50, 9), 9, [50, 0, 0, 0, 1]),
            (given_back(50, 9), 10, [49, 0, 0, 0, 1]),
            (delayed(50, 9), 9, [50, 0, 0, 0, 1]),
            (delayed(50, 9), 10, [49, 0, 0, 0, 1]),
            (by_periods(50, 9, 3), 49, [1, 3, 0, 0, 1]),
            (by_periods(50, 9, 3), 50, [9, 2, 1, 0, 1]),
            (by_periods(50, 9, 3), 58, [9, 2, 1, 0, 1]),
            (by_periods(50, 9, 3), 76, [9, 0, 1, 0, 1]),
            (hourglass(50), 20, [30, 0, 0, 0, 1]),
        )
        for phase, t, due in rows:
            with self.subTest(phase=phase, t=t):
                self.assertEqual(self.seen_of_0(phase, press(t)), due)
                self.assertEqual(self.seen_of_0(phase, press(t), pause(t + 3)), due)

    def test_when_a_flag_has_fallen(self):
        rows = (
            (plain(50), 50, [0, 0, 0, 0, 0], [50, 0, 0, 0, 0]),
            (added(50, 9), 50, [0, 0, 0, 0, 0], [50, 0, 0, 0, 0]),
            (given_back(50, 9), 50, [0, 0, 0, 0, 0], [50, 0, 0, 0, 0]),
            (delayed(50, 9), 59, [0, 0, 0, 0, 0], [50, 0, 0, 0, 0]),
            (by_periods(50, 9, 3), 77, [0, 0, 1, 0, 0], [50, 3, 0, 0, 0]),
            (hourglass(50), 50, [0, 0, 0, 0, 0], [100, 0, 0, 0, 0]),
        )
        for phase, falls, due, other in rows:
            for t in (falls, falls + 1, LATEST):
                for call in (now(t), press(t), pause(t)):
                    with self.subTest(phase=phase, call=call):
                        told = seen([start(2, phase), go(0), call], 2)
                        self.assertEqual(told, [due, other, [100, 0, t, 0]])
                        told = seen([start(2, phase), go(0), call, now(LATEST)], 2)
                        self.assertEqual(told, [due, other, [100, 0, LATEST, 0]])

    def test_only_as_far_as_the_time_was_told(self):
        self.check(
            (start(2, plain(50)), 0), (go(7), 0), (left(0), [50, 0, 0, 0, 0]), (now(9), 0), (left(0), [48, 0, 0, 0, 0]),
            (left(0), [48, 0, 0, 0, 0]), (left(1), [50, 0, 0, 0, 0]), (press(12), 1), (left(0), [45, 0, 0, 0, 1]),
            (left(1), [50, 0, 0, 0, 0]),
        )


class Phases(ClockCase):
    def test_at_a_change_by_each_kind(self):
        rows = (
            (plain(50, 1), 20, 30), (added(50, 9, 1), 20, 39), (given_back(50, 9, 1), 20, 39),
            (delayed(50, 9, 1), 20, 39), (by_periods(50, 9, 3, 1), 20, 30), (by_periods(50, 9, 3, 1), 52, 9),
        )
        for first, t, kept in rows:
            for second, periods in ((plain(700), 0), (added(700, 8), 0), (by_periods(700, 8, 5), 5)):
                with self.subTest(first=first, second=second, t=t):
                    told = seen([start(2, first, second), go(0), press(t)], 2)[0]
                    self.assertEqual(told, [kept + 700, periods, 0, 1, 0])

    def test_moves_in_a_phase(self):
        calls = [start(3, plain(10, 2), plain(100, 3), plain(1000)), go(0)]
        due = [(10, 0, 0), (10, 0, 1), (110, 1, 0), (110, 1, 1), (110, 1, 2), (1110, 2, 0), (1110, 2, 1), (1110, 2, 2)]
        for main, phase, moves in due:
            told = seen(calls, 3)
            self.assertEqual(told, [[main, 0, 0, phase, moves]] * 3 + [[0, 0, 0, 1]])
            calls += [press(0), press(0), press(0)]

    def test_each_player_has_their_own(self):
        calls = [start(3, plain(10, 1), by_periods(100, 5, 4)), go(0), press(1), press(3), press(6), press(10)]
        self.assertEqual(
            seen(calls, 3), [[105, 4, 0, 1, 1], [108, 4, 0, 1, 0], [107, 4, 0, 1, 0], [0, 1, 10, 1]])

    def test_what_is_cut_off(self):
        calls = [start(2, added(MOST_MAIN, MOST_INC)), go(0)]
        self.assertEqual(seen(calls + [press(0), press(0)] * 253, 2)[0], [997_200_000, 0, 0, 0, 253])
        self.assertEqual(seen(calls + [press(0), press(0)] * 254, 2)[0], [LATEST, 0, 0, 0, 254])
        self.assertEqual(seen(calls + [press(0), press(0)] * 255, 2)[0], [LATEST, 0, 0, 0, 255])

    def test_what_is_cut_off_at_a_change(self):
        rows = [added(MOST_MAIN, MOST_INC, 200), added(MOST_MAIN, MOST_INC, 30), plain(MOST_MAIN)]
        calls = [start(2, *rows), go(0)] + [press(0), press(0)] * 229
        self.assertEqual(seen(calls, 2)[0], [2 * MOST_MAIN + 229 * MOST_INC, 0, 0, 1, 29])
        self.assertEqual(seen(calls + [press(0)], 2)[0], [LATEST, 0, 0, 2, 0])

    def test_many_moves(self):
        calls = [start(2, added(10, 1)), go(0)] + [press(0)] * 3900
        self.assertEqual(ask(calls + [left(0), left(1)])[-2:], [[1960, 0, 0, 0, 1950]] * 2)
