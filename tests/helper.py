"""How the tests write calls and read answers."""

import unittest

from playclocks.desk import answers

LATEST = 1_000_000_000
MOST_MAIN = 86_400_000
MOST_INC = 3_600_000
TOP = 4_294_967_295

PLAIN, ADDED, GIVEN_BACK, DELAYED, BY_PERIODS, HOURGLASS = range(6)


def start(players, *rows):
    numbers = [number for row in rows for number in row]
    return [0, players, len(numbers)] + numbers


def go(t):
    return [1, t]


def now(t):
    return [2, t]


def press(t):
    return [3, t]


def row(moves=0, main=1000, kind=PLAIN, inc=0, periods=0):
    return [moves, main, kind, inc, periods]


def plain(main=1000, moves=0):
    return row(moves, main)


def added(main, inc, moves=0):
    return row(moves, main, ADDED, inc)


def given_back(main, inc, moves=0):
    return row(moves, main, GIVEN_BACK, inc)


def delayed(main, inc, moves=0):
    return row(moves, main, DELAYED, inc)


def by_periods(main, inc, periods, moves=0):
    return row(moves, main, BY_PERIODS, inc, periods)


def hourglass(main):
    return row(0, main, HOURGLASS)


def ask(calls):
    """One number a call, after a look at the form in which it was given."""
    given = answers([number for call in calls for number in call])
    if type(given) is not list or any(type(number) is not int for number in given):
        raise AssertionError(f"not a list of whole numbers: {given!r}")
    if len(given) != 2 * len(calls) or any(count != 1 for count in given[0::2]):
        raise AssertionError(f"not one number for each of {len(calls)} calls: {given!r}")
    return given[1::2]


class ClockCase(unittest.TestCase):
    def check(self, *steps):
        """Each step is a call and what it is to be answered."""
        self.assertEqual(ask([call for call, due in steps]), [due for call, due in steps])

    def falls(self, calls, t, player):
        """The flag of this player falls at t, not a millisecond sooner."""
        self.assertEqual(ask(calls + [now(t - 1)])[-1], 0)
        self.assertEqual(ask(calls + [now(t)])[-1], 100 + player)
        self.assertEqual(ask(calls + [now(t - 1), now(t)])[-2:], [0, 100 + player])
