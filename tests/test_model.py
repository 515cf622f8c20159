"""The program beside a slow one that goes millisecond by millisecond, as the words tell it."""

import random
import unittest

from tests.helper import ADDED, DELAYED, GIVEN_BACK, HOURGLASS, MOST_MAIN, any_later_call, any_start, ask, look


class Slow:
    def start(self, players, count, *numbers):
        rows = [numbers[k:k + 5] for k in range(0, count, 5)]
        self.rows = rows
        self.each = [
            {"left": rows[0][1], "periods": rows[0][4], "within": False, "phase": 0, "moves": 0}
            for k in range(players)
        ]
        self.time, self.stopped, self.turn, self.used, self.fallen = 0, True, 0, 0, None
        return 0

    def tick(self):
        one = self.each[self.turn]
        moves, main, kind, inc, periods = self.rows[one["phase"]]
        self.used += 1
        if kind == DELAYED and self.used <= inc:
            return
        one["left"] -= 1
        if kind == HOURGLASS:
            self.each[(self.turn + 1) % len(self.each)]["left"] += 1
        if one["left"] == 0 and one["periods"] > 0:
            one.update(left=inc, periods=one["periods"] - 1, within=True)
        if one["left"] == 0:
            self.fallen, self.stopped = self.turn, True

    def pass_until(self, t):
        while self.time < t:
            self.time += 1
            if not self.stopped:
                self.tick()

    def go(self, t):
        if t < self.time:
            return -22
        if self.fallen is not None:
            return -41
        if not self.stopped:
            return -17
        self.time, self.stopped = t, False
        return 0

    def now(self, t):
        if t < self.time:
            return -22
        self.pass_until(t)
        return 0 if self.fallen is None else 100 + self.fallen

    def pass_while_running(self, t):
        if t < self.time:
            return -22
        if self.fallen is not None:
            return -41
        if self.stopped:
            return -16
        return self.now(t)

    def pause(self, t):
        answer = self.pass_while_running(t)
        if answer == 0:
            self.stopped = True
        return answer

    def set(self, player, left):
        if player >= len(self.each) or left < 1 or left > MOST_MAIN:
            return -22
        if self.fallen is not None:
            return -41
        if not self.stopped:
            return -16
        self.each[player]["left"] = left
        return 0

    def left(self, player):
        if player >= len(self.each):
            return -22
        one = self.each[player]
        return [one["left"], one["periods"], int(one["within"]), one["phase"], one["moves"]]

    def state(self):
        return [0 if self.fallen is None else 100 + self.fallen, self.turn, self.time, int(not self.stopped)]

    def press(self, t):
        answer = self.pass_while_running(t)
        if answer != 0:
            return answer
        one = self.each[self.turn]
        moves, main, kind, inc, periods = self.rows[one["phase"]]
        if kind == ADDED:
            one["left"] += inc
        if kind == GIVEN_BACK:
            one["left"] += min(self.used, inc)
        if one["within"]:
            one["left"] = inc
        one["moves"] += 1
        if one["moves"] == moves:
            following = self.rows[one["phase"] + 1]
            one.update(
                left=one["left"] + following[1], periods=following[4], within=False, phase=one["phase"] + 1, moves=0,
            )
        self.turn, self.used = (self.turn + 1) % len(self.each), 0
        return self.turn


    def answer(self, call):
        said = (self.start, self.go, self.now, self.press, self.pause, self.set, self.left, self.state)
        return said[call[0]](*call[1:])


def play(chance, length):
    """A line of calls, and what the slow one answers to each."""
    slow = Slow()
    calls, due = [], []
    for k in range(length):
        first = k == 0 or chance.random() < 0.01
        call = any_start(chance) if first else any_later_call(chance, slow.time)
        for each in [call] + look(4):
            calls.append(each)
            due.append(slow.answer(each))
    return calls, due


class BesideTheSlowOne(unittest.TestCase):
    def test_any_line(self):
        chance = random.Random(33)
        answered = {}
        for k in range(1000):
            calls, due = play(chance, 60)
            self.assertEqual(ask(calls), due, calls)
            for call, said in zip(calls, due):
                if isinstance(said, int):
                    answered.setdefault(call[0], set()).add(said)
        self.assert_all_were_met(answered)

    def assert_all_were_met(self, answered):
        """Lines by chance say little where an answer never comes among them."""
        fell = {100, 101, 102, 103}
        self.assertEqual(answered[1], {0, -22, -41, -17})
        self.assertEqual(answered[2], {0, -22} | fell)
        self.assertEqual(answered[3], {0, 1, 2, 3, -22, -41, -16} | fell)
        self.assertEqual(answered[4], {0, -22, -41, -16} | fell)
        self.assertEqual(answered[5], {0, -22, -41, -16})
        self.assertEqual(answered[6], {-22})
