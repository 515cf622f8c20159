"""Point 4: press, and what a move costs and gives by the kind of its phase."""

from tests.helper import (
    LATEST, MOST_INC, MOST_MAIN, TOP, ClockCase, added, ask, by_periods, delayed, given_back, go, hourglass, now,
    pause, plain, press, seen, set_left, start,
)


class Press(ClockCase):
    def test_round_the_table(self):
        for players in (2, 3, 4):
            with self.subTest(players=players):
                calls = [start(players, plain(100)), go(0)] + [press(t) for t in range(3 * players)]
                self.assertEqual(ask(calls)[2:], [(k + 1) % players for k in range(3 * players)])

    def test_only_the_clock_of_who_is_to_move_runs(self):
        calls = [start(3, plain(100)), go(0), press(10), press(30), press(60)]
        self.falls(calls, 150, 0)
        self.falls(calls + [press(60)], 140, 1)
        self.falls(calls + [press(60), press(60)], 130, 2)

    def test_wrong_t(self):
        self.check(
            (start(2, plain(10)), 0), (go(5), 0), (press(4), -22), (press(LATEST + 1), -22), (press(TOP), -22),
            (press(5), 1), (press(7), 0), (press(6), -22), (press(7), 1),
        )

    def test_t_at_its_highest(self):
        self.check((start(2, plain(10)), 0), (go(LATEST - 9), 0), (press(LATEST), 1), (press(LATEST), 0))

    def test_time_is_stopped(self):
        self.check(
            (start(2, plain(10)), 0), (press(0), -16), (press(LATEST), -16), (now(3), 0), (press(2), -22),
            (press(LATEST + 1), -22), (press(3), -16), (go(3), 0), (press(3), 1),
        )

    def test_a_flag_has_fallen(self):
        self.check(
            (start(2, plain(10)), 0), (go(0), 0), (now(20), 100), (press(20), -41), (press(LATEST), -41),
            (press(19), -22), (press(LATEST + 1), -22), (now(20), 100),
        )

    def test_a_flag_falls_by_the_press(self):
        for t in (10, 11, LATEST):
            self.check(
                (start(2, plain(10)), 0), (go(0), 0), (press(t), 100), (press(t), -41), (go(t), -41), (now(t - 1), -22),
                (now(t), 100),
            )
        self.check((start(4, plain(10)), 0), (go(0), 0), (press(1), 1), (press(2), 2), (press(3), 3), (press(13), 103))

    def test_a_refusal_leaves_the_object(self):
        calls = [start(2, delayed(10, 5)), go(0), press(2), press(1), press(LATEST + 1)]
        self.assertEqual(ask(calls)[-2:], [-22, -22])
        self.falls(calls, 17, 1)
        self.falls(calls + [press(3)], 18, 0)


class Kinds(ClockCase):
    def back_at_player_0(self, phase, used):
        """Player 0 used so much in a move, and player 1 nothing."""
        return [start(2, phase), go(0), press(used), press(used)]

    def test_plain(self):
        for used in (0, 1, 99):
            self.falls(self.back_at_player_0(plain(100), used), 100, 0)

    def test_added(self):
        for used in (0, 1, 5, 6, 99):
            self.falls(self.back_at_player_0(added(100, 5), used), 105, 0)
        self.falls([start(2, added(100, 5)), go(0)], 100, 0)
        self.check((start(2, added(100, 5)), 0), (go(0), 0), (press(100), 100))

    def test_added_once_a_move(self):
        calls = [start(2, added(100, 5)), go(0), press(90), press(90), press(95), press(95)]
        self.falls(calls, 110, 0)
        self.falls(calls + [press(95)], 205, 1)

    def test_given_back(self):
        for used in (0, 1, 19, 20):
            self.falls(self.back_at_player_0(given_back(100, 20), used), 100 + used, 0)
        for used in (21, 50, 99):
            self.falls(self.back_at_player_0(given_back(100, 20), used), 120, 0)
        self.falls([start(2, given_back(100, 20)), go(0)], 100, 0)

    def test_given_back_of_this_move_alone(self):
        calls = [start(2, given_back(100, 20)), go(0), press(50), press(51), press(53), press(53), press(53)]
        self.falls(calls[:-1] + [press(53)], 153, 1)
        self.falls(calls[:-1], 123, 0)

    def test_given_back_when_it_was_looked_at(self):
        calls = [start(2, given_back(100, 20)), go(0), now(5), now(10), now(15), press(15), press(15)]
        self.falls(calls, 115, 0)

    def test_delayed(self):
        self.falls([start(2, delayed(100, 20)), go(0)], 120, 0)
        for used in (0, 1, 19, 20):
            self.falls(self.back_at_player_0(delayed(100, 20), used), used + 120, 0)
        self.falls(self.back_at_player_0(delayed(100, 20), 21), 21 + 119, 0)
        self.falls(self.back_at_player_0(delayed(100, 20), 119), 119 + 21, 0)

    def test_a_move_shorter_than_the_delay_costs_nothing(self):
        calls = [start(2, delayed(1, 20)), go(0)] + [press(20 * k) for k in range(1, 11)]
        self.falls(calls, 221, 0)

    def test_by_periods_main_time_first(self):
        self.falls([start(2, by_periods(100, 30, 2)), go(0)], 160, 0)
        for used in (0, 1, 99):
            self.falls(self.back_at_player_0(by_periods(100, 30, 2), used), 160, 0)

    def test_by_periods_a_period_is_whole_again(self):
        for used in (100, 101, 129):
            self.falls(self.back_at_player_0(by_periods(100, 30, 2), used), used + 60, 0)
        for used in (130, 131, 159):
            self.falls(self.back_at_player_0(by_periods(100, 30, 2), used), used + 30, 0)
        self.check((start(2, by_periods(100, 30, 2)), 0), (go(0), 0), (press(160), 100))

    def test_by_periods_many_at_once(self):
        self.falls([start(2, by_periods(100, 30, 20)), go(0)], 700, 0)
        self.falls(self.back_at_player_0(by_periods(100, 30, 20), 699), 729, 0)
        self.falls(self.back_at_player_0(by_periods(1, 1, 20), 7), 21, 0)

    def test_by_periods_each_has_their_own(self):
        calls = [start(2, by_periods(10, 5, 2)), go(0), press(16), press(17), press(22)]
        self.assertEqual(ask(calls), [0, 0, 1, 0, 100])
        self.falls(calls[:-1] + [press(20)], 20 + 9 + 10, 1)

    def test_hourglass(self):
        for used in (0, 1, 99):
            calls = [start(2, hourglass(100)), go(0), press(used)]
            self.falls(calls, used + 100 + used, 1)
            self.falls(calls + [press(used)], used + 100 - used, 0)

    def test_hourglass_back_and_forth(self):
        calls = [start(2, hourglass(100)), go(0), press(60), press(200)]
        self.falls(calls, 200 + 180, 0)
        self.falls(calls + [press(379)], 379 + 199, 1)


class Phases(ClockCase):
    def test_the_next_phase_begins_with_the_last_move(self):
        rows = [plain(100, moves=2), plain(1000)]
        self.falls([start(2, *rows), go(0), press(40), press(40)], 100, 0)
        calls = [start(2, *rows), go(0), press(40), press(40), press(50), press(50)]
        self.falls(calls, 50 + 1050, 0)
        self.falls(calls[:-1], 150, 1)

    def test_each_player_has_their_own_phase(self):
        calls = [start(3, plain(100, moves=1), plain(1000)), go(0), press(10)]
        self.falls(calls, 110, 1)
        self.falls(calls + [press(10), press(10)], 10 + 1090, 0)

    def test_three_phases(self):
        rows = [plain(10, moves=1), plain(100, moves=2), plain(1000)]
        calls = [start(2, *rows), go(0)]
        for moves, left in ((0, 10), (1, 110), (2, 110), (3, 1110), (4, 1110), (9, 1110)):
            self.falls(calls + [press(0), press(0)] * moves, left, 0)

    def test_200_moves(self):
        calls = [start(2, plain(10, moves=200), plain(100)), go(0)]
        self.falls(calls + [press(0), press(0)] * 199, 10, 0)
        self.falls(calls + [press(0), press(0)] * 200, 110, 0)
        self.falls(calls + [press(0), press(0)] * 401, 110, 0)

    def test_a_last_phase_lasts_on(self):
        calls = [start(2, added(10, 1)), go(0)]
        self.falls(calls + [press(0), press(0)] * 300, 310, 0)

    def test_the_last_move_ends_by_its_own_phase(self):
        for first, left in ((plain(100, 1), 60), (added(100, 7, 1), 67), (given_back(100, 7, 1), 67),
                            (delayed(100, 7, 1), 67), (by_periods(100, 7, 3, 1), 60)):
            with self.subTest(first=first):
                self.falls([start(2, first, plain(1000)), go(0), press(40), press(40)], 40 + left + 1000, 0)

    def test_the_next_phase_goes_by_its_own_kind(self):
        for second, left in ((added(50, 9), 150 + 9), (given_back(50, 9), 150), (delayed(50, 9), 150 + 9),
                             (by_periods(50, 9, 2), 150 + 2 * 9 - 5)):
            with self.subTest(second=second):
                calls = [start(2, plain(100, 1), second), go(0), press(0), press(0), press(5), press(5)]
                ends = 5 + left - (5 if second[2] == 1 else 0)
                self.falls(calls, ends, 0)

    def test_nothing_is_given_in_the_first_move_of_a_giving_phase_before_it_ends(self):
        self.falls([start(2, plain(100, 1), added(50, 9)), go(0), press(0), press(0)], 150, 0)

    def test_periods_of_a_phase_end_with_it(self):
        calls = [start(2, by_periods(10, 5, 3, moves=1), plain(100)), go(0)]
        self.falls(calls + [press(0), press(0)], 110, 0)
        self.falls(calls + [press(12), press(12)], 12 + 5 + 100, 0)

    def test_in_no_period_when_the_next_phase_begins(self):
        rows = [by_periods(10, 5, 1, moves=1), by_periods(100, 20, 2)]
        calls = [start(2, *rows), go(0), press(12), press(12)]
        self.falls(calls, 12 + 105 + 40, 0)
        self.falls(calls + [press(50), press(50)], 12 + 105 + 40, 0)
        self.falls(calls + [press(117), press(117)], 117 + 40, 0)

    def test_used_of_a_phase_begins_anew(self):
        rows = [delayed(100, 30, moves=1), delayed(100, 10)]
        self.falls([start(2, *rows), go(0), press(30), press(30)], 30 + 200 + 10, 0)


class CutOff(ClockCase):
    def played(self, row, moves, *later):
        """All of it at one moment, so that nothing is used."""
        return [start(2, row, *later), go(0)] + [press(0), press(0)] * moves

    def test_what_is_above_is_cut_off(self):
        # 253 moves bring 997,200,000, and one more would bring 1,000,800,000.
        self.falls(self.played(added(MOST_MAIN, MOST_INC), 253), 997_200_000, 0)
        self.falls(self.played(added(MOST_MAIN, MOST_INC), 254), LATEST, 0)
        self.falls(self.played(added(MOST_MAIN, MOST_INC), 600), LATEST, 0)

    def test_just_the_bound_is_not_cut_off(self):
        main = LATEST - 260 * MOST_INC
        self.falls(self.played(added(main - 1, MOST_INC), 260), LATEST - 1, 0)
        self.falls(self.played(added(main, MOST_INC), 260), LATEST, 0)
        self.falls(self.played(added(main + 1, MOST_INC), 260), LATEST, 0)

    def test_what_was_cut_off_does_not_come_back(self):
        rows = [added(MOST_MAIN, MOST_INC, 200), added(MOST_MAIN, MOST_INC, 200), plain(MOST_MAIN)]
        calls = [start(2, *rows), go(0)] + [press(0), press(0)] * 400
        self.falls(calls + [press(7), press(7), press(1000), press(1000)], LATEST, 0)

    def test_with_the_next_phase_s_main_time(self):
        # A first phase of 200 moves gives 806,400,000 at most, so the second one has to give too.
        rows = [added(MOST_MAIN, MOST_INC, 200), added(MOST_MAIN, MOST_INC, 30), plain(MOST_MAIN)]
        calls = [start(2, *rows), go(0)]
        due = 2 * MOST_MAIN + 229 * MOST_INC
        self.falls(calls + [press(0), press(0)] * 229, due, 0)
        self.falls(calls + [press(0), press(0)] * 230, LATEST, 0)

    def test_of_an_hourglass_nothing_is_cut_off(self):
        # What player 0 is given anew runs to player 1, who never uses any of it.
        calls, t = [start(2, hourglass(MOST_MAIN)), go(0)], 0
        while t + MOST_MAIN <= LATEST:
            t += MOST_MAIN - 1
            calls += [press(t), press(t), pause(t), set_left(0, MOST_MAIN), go(t)]
        calls += [press(LATEST), press(LATEST)]
        self.assertEqual(max(ask(calls)), 1)
        spent = LATEST - t
        self.assertEqual(seen(calls, 2)[:2], [[MOST_MAIN - spent, 0, 0, 0, 12], [MOST_MAIN + LATEST, 0, 0, 0, 12]])
