"""The program beside a slow one that goes millisecond by millisecond, as the words tell it."""

import random
import unittest

from tests.helper import (
    ADDED, BY_PERIODS, DELAYED, GIVEN_BACK, HOURGLASS, PLAIN, ask, go, now, press, row, start,
)


class Slow:
    def start(self, players, rows):
        self.rows = rows
        self.each = [
            {"left": rows[0][1], "periods": rows[0][4], "within": False, "phase": 0, "moves": 0}
            for k in range(players)
        ]
        self.time, self.stopped, self.turn, self.used, self.fallen = 0, True, 0, 0, None
        return 0

    def tick(self):
        one = self.each[self.turn]
        moves, main, kind, inc, periods = self.rows[one["phase"]]
        self.used += 1
        if kind == DELAYED and self.used <= inc:
            return
        one["left"] -= 1
        if kind == HOURGLASS:
            self.each[(self.turn + 1) % len(self.each)]["left"] += 1
        if one["left"] == 0 and one["periods"] > 0:
            one.update(left=inc, periods=one["periods"] - 1, within=True)
        if one["left"] == 0:
            self.fallen, self.stopped = self.turn, True

    def pass_until(self, t):
        while self.time < t:
            self.time += 1
            if not self.stopped:
                self.tick()

    def go(self, t):
        if t < self.time:
            return -22
        if self.fallen is not None:
            return -41
        if not self.stopped:
            return -17
        self.time, self.stopped = t, False
        return 0

    def now(self, t):
        if t < self.time:
            return -22
        self.pass_until(t)
        return 0 if self.fallen is None else 100 + self.fallen

    def press(self, t):
        if t < self.time:
            return -22
        if self.fallen is not None:
            return -41
        if self.stopped:
            return -16
        self.pass_until(t)
        if self.fallen is not None:
            return 100 + self.fallen
        one = self.each[self.turn]
        moves, main, kind, inc, periods = self.rows[one["phase"]]
        if kind == ADDED:
            one["left"] += inc
        if kind == GIVEN_BACK:
            one["left"] += min(self.used, inc)
        if one["within"]:
            one["left"] = inc
        one["moves"] += 1
        if one["moves"] == moves:
            following = self.rows[one["phase"] + 1]
            one.update(
                left=one["left"] + following[1], periods=following[4], within=False, phase=one["phase"] + 1, moves=0,
            )
        self.turn, self.used = (self.turn + 1) % len(self.each), 0
        return self.turn


def any_row(chance, moves, kinds):
    kind = chance.choice(kinds)
    inc = 0 if kind in (PLAIN, HOURGLASS) else chance.randint(1, 9)
    periods = chance.randint(1, 3) if kind == BY_PERIODS else 0
    return row(moves, chance.randint(1, 40), kind, inc, periods)


def any_rows(chance):
    count = chance.randint(1, 3)
    if count == 1:
        return [any_row(chance, 0, range(6))]
    return [any_row(chance, chance.randint(1, 4), range(5)) for k in range(count - 1)] + [any_row(chance, 0, range(5))]


def play(chance, length):
    """A line of calls, and what the slow one answers to each."""
    slow = Slow()
    calls, due = [], []
    for k in range(length):
        if k == 0 or chance.random() < 0.01:
            players, rows = chance.randint(2, 4), any_rows(chance)
            calls.append(start(players, *rows))
            due.append(slow.start(players, rows))
            continue
        t = max(0, slow.time + chance.choice((-1, 0, 0, 1, 1, 2, 3, 5, 8)))
        write, say = chance.choice(((go, slow.go), (now, slow.now), (press, slow.press), (press, slow.press)))
        calls.append(write(t))
        due.append(say(t))
    return calls, due


class BesideTheSlowOne(unittest.TestCase):
    def test_any_line(self):
        chance = random.Random(33)
        for k in range(1500):
            calls, due = play(chance, 60)
            self.assertEqual(ask(calls), due, calls)

    def test_looking_in_between_changes_nothing(self):
        chance = random.Random(34)
        for k in range(500):
            begin = [start(chance.randint(2, 4), *any_rows(chance)), go(0)]
            times = sorted(chance.randint(0, 120) for k in range(chance.randint(1, 15)))
            seldom = ask(begin + [press(t) for t in times])
            if max(seldom) >= 100:
                last = [100 <= number for number in seldom].index(True) - 2
                times, seldom = times[:last], seldom[:last + 2]
            often, places = list(begin), [0, 1]
            before = 0
            for t in times:
                often += [now(chance.randint(before, t))] + [now(t)] * chance.randint(0, 2)
                places.append(len(often))
                often.append(press(t))
                before = t
            given = ask(often)
            self.assertEqual([given[place] for place in places], seldom)
