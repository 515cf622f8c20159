"""Point 9: what holds, whatever is called."""

import random

from tests.helper import (
    BY_PERIODS, ClockCase, added, any_calls, ask, by_periods, delayed, given_back, go, hourglass, look, now, pause,
    plain, press, row, seen, set_left, start,
)


def players_of(calls):
    return calls[0][1]


def times_left(told):
    return [one[0] for one in told[:-1]]


def looked_at_behind_each(calls):
    """What is seen behind each call, and what each is answered."""
    players = players_of(calls)
    given = ask([each for call in calls for each in [call] + look(players)])
    step = players + 2
    return [(given[k], given[k + 1:k + step]) for k in range(0, len(given), step)]


class LookingChangesNothing(ClockCase):
    def with_looks(self, chance, calls):
        """These calls with looks between them, and the places of these calls."""
        players = players_of(calls)
        often, places, time = [], [], 0
        for call, answer in zip(calls, ask(calls)):
            if often:
                often += chance.choices(look(players + 1), k=chance.randint(0, 3))
            if often and call[0] in (1, 2, 3, 4) and answer >= 0:
                times = sorted(chance.randint(time, call[1]) for k in range(chance.randint(0, 3)))
                for t in times:
                    if not self.would_fall(often, t):
                        often += [now(t)] + chance.choices(look(players), k=chance.randint(0, 3))
                time = call[1]
            places.append(len(often))
            often.append(call)
        return often, places

    def would_fall(self, calls, t):
        # Who looks when it has fallen is told so, and then press has -41 to say in the place of 100 and whose.
        return ask(calls + [now(t)])[-1] >= 100

    def test_any_line(self):
        chance = random.Random(91)
        for k in range(400):
            calls = any_calls(chance, 25)
            often, places = self.with_looks(chance, calls)
            given = ask(often)
            self.assertEqual([given[place] for place in places], ask(calls), calls)
            self.assertEqual(seen(often, players_of(calls)), seen(calls, players_of(calls)))

    def test_a_flag_that_falls_unseen(self):
        for phase, falls in ((plain(50), 50), (delayed(50, 9), 59), (by_periods(50, 9, 2), 68), (hourglass(50), 50)):
            begin = [start(3, phase), go(0)]
            due = seen(begin + [now(200)], 3)
            self.assertEqual(due[-1], [100, 0, 200, 0])
            for times in (range(0, 200), (falls, 199), (falls - 1, falls), (falls + 1, falls + 2), (200, 200)):
                self.assertEqual(seen(begin + [now(t) for t in times] + [now(200)], 3), due)


class NoSandIsLost(ClockCase):
    def test_for_two_three_and_four(self):
        chance = random.Random(92)
        fell = 0
        for k in range(300):
            players, main = chance.randint(2, 4), chance.randint(1, 60)
            calls, t = [start(players, hourglass(main)), go(0)], 0
            for step in range(40):
                t += chance.choice((0, 1, 2, 5, 9, 30))
                calls.append(chance.choice((now, press, press, pause, go))(t))
            for answer, told in looked_at_behind_each(calls):
                self.assertEqual(sum(times_left(told)), players * main, calls)
            fell += told[-1][0] >= 100
        self.assertGreater(fell, 100)

    def test_when_a_flag_falls(self):
        for players in (2, 3, 4):
            for t in (50, 51, 1000):
                for last in (now, press, pause):
                    told = seen([start(players, hourglass(50)), go(0), last(t)], players)
                    self.assertEqual(times_left(told), [0, 100] + [50] * (players - 2))

    def test_with_what_was_set(self):
        calls = [start(3, hourglass(50)), set_left(2, 500), go(0), press(20), pause(30), set_left(0, 7), go(40)]
        for t in (40, 45, 80, 99, 100, 200):
            told = seen(calls + [now(t), press(t), press(t + 3)], 3)
            self.assertEqual(sum(times_left(told)), 7 + 60 + 510)


class GivenBack(ClockCase):
    def test_never_more_than_a_move_began_with(self):
        for inc in (1, 5, 40):
            for used in range(0, 50):
                began = 50
                told = seen([start(2, given_back(50, inc)), go(0), press(used)], 2)
                self.assertLessEqual(told[0][0], began)
                self.assertEqual(told[0][0], 50 - max(0, used - inc))

    def test_with_pauses_and_looks(self):
        chance = random.Random(93)
        for k in range(200):
            inc = chance.randint(1, 20)
            calls, t, began = [start(2, given_back(60, inc)), go(0)], 0, [60, 60]
            for step in range(20):
                t += chance.randint(0, 4)
                calls += chance.choice(([press(t)], [now(t)], [pause(t), now(t + 2), go(t + 3)]))
                t = calls[-1][1]
            for answer, told in looked_at_behind_each(calls):
                for player in range(2):
                    self.assertLessEqual(told[player][0], began[player])
                    if told[-1][1] != player:
                        began[player] = told[player][0]


class Delay(ClockCase):
    def test_a_move_shorter_than_it_costs_nothing(self):
        for used in range(0, 21):
            for breaks in ([], [now(used // 2)], [pause(used // 2), go(used // 2)]):
                told = seen([start(2, delayed(1, 20)), go(0)] + breaks + [press(used)], 2)
                self.assertEqual(told, [[1, 0, 0, 0, 1], [1, 0, 0, 0, 0], [0, 1, used, 1]])
        self.check((start(2, delayed(1, 20)), 0), (go(0), 0), (press(21), 100))

    def test_in_a_later_phase(self):
        calls = [start(2, delayed(5, 3, 1), delayed(5, 10)), go(0), press(3), press(6), press(16)]
        self.assertEqual(seen(calls, 2), [[10, 0, 0, 1, 1], [10, 0, 0, 1, 0], [0, 1, 16, 1]])


class OnlyOneClockRuns(ClockCase):
    def test_while_time_goes_on(self):
        for phase in (plain(90), added(90, 5), given_back(90, 5), delayed(90, 5), by_periods(90, 5, 2)):
            for players in (2, 3, 4):
                for turns in range(2 * players):
                    calls = [start(players, phase), go(0)] + [press(k) for k in range(turns)]
                    before, after = seen(calls, players), seen(calls + [now(50)], players)
                    changed = [k for k in range(players) if before[k] != after[k]]
                    self.assertEqual(changed, [turns % players])

    def test_of_an_hourglass_the_next_one_fills(self):
        for players in (2, 3, 4):
            for turns in range(2 * players):
                calls = [start(players, hourglass(90)), go(0)] + [press(0)] * turns
                due = [90] * players
                due[turns % players] -= 50
                due[(turns + 1) % players] += 50
                self.assertEqual(times_left(seen(calls + [now(50)], players)), due)

    def test_none_while_it_is_stopped(self):
        for phase in (plain(90), delayed(90, 5), by_periods(90, 5, 2), hourglass(90)):
            for begin in ([start(3, phase)], [start(3, phase), go(0), press(7), pause(20)]):
                self.assertEqual(seen(begin + [now(5000)], 3)[:-1], seen(begin, 3)[:-1])


class Always(ClockCase):
    def test_a_flag_that_fell_stays_fallen(self):
        chance = random.Random(94)
        fell = 0
        for k in range(300):
            fallen = None
            for answer, told in looked_at_behind_each(any_calls(chance, 60)):
                if fallen is not None:
                    self.assertEqual(told[:-1], fallen[:-1])
                    self.assertEqual(told[-1][:2] + told[-1][3:], fallen[-1][:2] + fallen[-1][3:])
                elif told[-1][0] != 0:
                    fallen = told
                    fell += 1
        self.assertGreater(fell, 100)

    def test_as_long_as_none_falls_everybody_has_some_time_left(self):
        chance = random.Random(95)
        for k in range(300):
            for answer, told in looked_at_behind_each(any_calls(chance, 60)):
                loser = told[-1][0] - 100
                for player, much in enumerate(times_left(told)):
                    self.assertEqual(much == 0, player == loser)
                    self.assertGreaterEqual(much, 0)

    def test_a_fallen_flag_has_no_period_behind(self):
        chance = random.Random(96)
        fell = 0
        for k in range(100):
            rows = [row(0, chance.randint(1, 20), BY_PERIODS, chance.randint(1, 9), chance.randint(1, 20))]
            told = seen([start(2, *rows), go(0), now(chance.randint(1, 200))], 2)
            if told[-1][0] == 100:
                fell += 1
                self.assertEqual(told[0], [0, 0, 1, 0, 0])
        self.assertGreater(fell, 30)
