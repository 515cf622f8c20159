"""The refusals: each leaves the object just as it was."""

from tests.helper import (
    LATEST, MOST_MAIN, TOP, ClockCase, added, ask, by_periods, delayed, given_back, go, hourglass, left, look, now,
    pause, plain, press, row, seen, set_left, start,
)

PHASES = (
    [plain(60)], [added(60, 4)], [given_back(60, 4)], [delayed(60, 4)], [delayed(4, 60)], [by_periods(3, 30, 2)],
    [hourglass(60)], [plain(60, 1), delayed(60, 5, 1), by_periods(7, 40, 3)],
)
WRONG = (
    start(0, plain()), start(1, plain()), start(5, plain()), start(TOP, plain()), start(2), start(2, plain(0)),
    start(2, plain(moves=1)), start(3, plain(), plain()), start(2, row(kind=6)), start(4, *[plain(moves=1)] * 8),
    go(9), now(9), press(9), pause(9), go(0), now(0), press(0), pause(0),
    go(LATEST + 1), now(LATEST + 1), press(LATEST + 1), pause(LATEST + 1), go(TOP), now(TOP), press(TOP), pause(TOP),
    set_left(3, 5), set_left(TOP, 5), set_left(3, 0), set_left(0, 0), set_left(2, MOST_MAIN + 1), set_left(1, TOP),
    left(3), left(4), left(TOP),
)
OF_STOPPED_TIME = (press(10), press(11), press(LATEST), pause(10), pause(11), pause(LATEST))
OF_TIME_THAT_GOES_ON = (set_left(0, 5), set_left(1, 5), set_left(2, MOST_MAIN))
OF_A_CLOCK_THAT_GOES = (go(10), go(11), go(LATEST))
OF_A_FALLEN_FLAG = OF_STOPPED_TIME + OF_TIME_THAT_GOES_ON + OF_A_CLOCK_THAT_GOES

# What each object does later tells what neither left nor state shows: how much of this move is used.
LATER = (
    [go(12), now(13), press(15), press(16), pause(17), set_left(1, 40), go(20), press(25), press(90), now(400)],
    [press(12), press(19), pause(21), go(21), now(60), press(60), press(61)],
    [now(500)],
    [start(3, added(9, 2)), go(1), press(2)],
)


class Refusals(ClockCase):
    def leave_the_object(self, calls, refused):
        """Each of these calls has its refusal here, and all is as without it."""
        before = seen(calls, 3)
        later = [self.told_later(calls, line) for line in LATER]
        for call, refusal in refused:
            with self.subTest(calls=calls, call=call):
                self.assertEqual(ask(calls + [call])[-1], refusal)
                self.assertEqual(seen(calls + [call], 3), before)
                self.assertEqual([self.told_later(calls + [call], line) for line in LATER], later)
        every = calls + [call for call, refusal in refused]
        self.assertEqual(seen(every, 3), before)
        self.assertEqual([self.told_later(every, line) for line in LATER], later)

    def told_later(self, calls, line):
        with_looks = [each for call in line for each in [call] + look(3)]
        return ask(calls + with_looks)[len(calls):]

    def with_wrong(self, *groups):
        """What is wrong is -22 whatever else is due."""
        return [(call, -22) for call in WRONG] + [(call, refusal) for calls, refusal in groups for call in calls]

    def test_before_the_first_go(self):
        for rows in PHASES:
            self.leave_the_object([start(3, *rows), now(10)], self.with_wrong((OF_STOPPED_TIME, -16)))

    def test_while_time_runs(self):
        refused = self.with_wrong((OF_A_CLOCK_THAT_GOES, -17), (OF_TIME_THAT_GOES_ON, -16))
        for rows in PHASES:
            self.leave_the_object([start(3, *rows), go(3), now(10)], refused)
            self.leave_the_object([start(3, *rows), go(0), press(1), press(4), press(7), press(10)], refused)
            self.leave_the_object([start(3, *rows), go(10)], refused)

    def test_when_paused(self):
        refused = self.with_wrong((OF_STOPPED_TIME, -16))
        for rows in PHASES:
            self.leave_the_object([start(3, *rows), go(3), pause(10)], refused)
            self.leave_the_object([start(3, *rows), go(0), press(1), pause(7), set_left(1, 33), now(10)], refused)

    def test_when_a_flag_has_fallen(self):
        refused = self.with_wrong((OF_A_FALLEN_FLAG, -41))
        for phase in (plain(4), added(4, 3), given_back(4, 3), delayed(2, 2), by_periods(2, 1, 2), hourglass(4)):
            for calls in ([go(0), now(10)], [go(0), press(1), now(10)], [go(2), press(10)], [go(2), pause(10)]):
                begin = [start(3, phase)] + calls
                self.assertGreaterEqual(seen(begin, 3)[-1][0], 100)
                self.leave_the_object(begin, refused)

    def test_ahead_of_the_first_start(self):
        wrong = [call for call in WRONG if call[0] == 0]
        self.assertEqual(ask(wrong + [start(2, plain(7))]), [-22] * len(wrong) + [0])
        self.assertEqual(seen(wrong + [start(2, plain(7))], 2), seen([start(2, plain(7))], 2))
