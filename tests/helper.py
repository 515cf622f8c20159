"""How the tests write calls, by chance too, and read answers."""

import unittest

from playclocks.desk import answers

LATEST = 1_000_000_000
MOST_MAIN = 86_400_000
MOST_INC = 3_600_000
TOP = 4_294_967_295

PLAIN, ADDED, GIVEN_BACK, DELAYED, BY_PERIODS, HOURGLASS = range(6)


def start(players, *rows):
    numbers = [number for row in rows for number in row]
    return [0, players, len(numbers)] + numbers


def go(t):
    return [1, t]


def now(t):
    return [2, t]


def press(t):
    return [3, t]


def pause(t):
    return [4, t]


def set_left(player, left):
    return [5, player, left]


def left(player):
    return [6, player]


def state():
    return [7]


def look(players):
    """All that can be seen of an object with so many players."""
    return [left(player) for player in range(players)] + [state()]


def row(moves=0, main=1000, kind=PLAIN, inc=0, periods=0):
    return [moves, main, kind, inc, periods]


def plain(main=1000, moves=0):
    return row(moves, main)


def added(main, inc, moves=0):
    return row(moves, main, ADDED, inc)


def given_back(main, inc, moves=0):
    return row(moves, main, GIVEN_BACK, inc)


def delayed(main, inc, moves=0):
    return row(moves, main, DELAYED, inc)


def by_periods(main, inc, periods, moves=0):
    return row(moves, main, BY_PERIODS, inc, periods)


def hourglass(main):
    return row(0, main, HOURGLASS)


def flat(calls):
    return [number for call in calls for number in call]


def how_many(call, first):
    """How many numbers are answered, when this is the first of them."""
    return 1 if first < 0 else {6: 5, 7: 4}.get(call[0], 1)


def ask(calls):
    """What each call is answered, after a look at its form: a number, or a list where there are several."""
    given = answers(flat(calls))
    if type(given) is not list or any(type(number) is not int for number in given):
        raise AssertionError(f"not a list of whole numbers: {given!r}")
    told, place = [], 0
    for call in calls:
        count, first = given[place:place + 2]
        if count != how_many(call, first):
            raise AssertionError(f"{count} numbers are answered to {call!r}: {given!r}")
        told.append(first if count == 1 else given[place + 1:place + 1 + count])
        place += 1 + count
    if place != len(given):
        raise AssertionError(f"not just one answer for each of {len(calls)} calls: {given!r}")
    return told


def seen(calls, players):
    """What is seen of the object behind these calls."""
    return ask(calls + look(players))[len(calls):]


def any_row(chance, moves, kinds):
    kind = chance.choice(kinds)
    inc = 0 if kind in (PLAIN, HOURGLASS) else chance.randint(1, 9)
    periods = chance.randint(1, 3) if kind == BY_PERIODS else 0
    return row(moves, chance.randint(1, 40), kind, inc, periods)


def any_rows(chance):
    """Short times, so that flags fall, phases change and periods are taken."""
    count = chance.randint(1, 3)
    if count == 1:
        return [any_row(chance, 0, range(6))]
    return [any_row(chance, chance.randint(1, 4), range(5)) for k in range(count - 1)] + [any_row(chance, 0, range(5))]


def any_start(chance):
    return start(chance.randint(2, 4), *any_rows(chance))


def any_set(chance):
    return set_left(chance.randint(0, 4), chance.choice((0, 1, 2, 5, 9, 30)))


def any_later_call(chance, t):
    """A call at about t, refusals of each sort among them."""
    write = chance.choice((go, go, now, press, press, press, press, pause, any_set, left, state))
    if write is any_set:
        return any_set(chance)
    if write is left:
        return left(chance.randint(0, 4))
    if write is state:
        return state()
    return write(max(0, t + chance.choice((-1, 0, 0, 0, 1, 1, 2, 3, 5, 8))))


def any_calls(chance, length):
    """One start, then calls whose times mostly go on."""
    calls, t = [any_start(chance), go(0)], 0
    while len(calls) < length:
        call = any_later_call(chance, t)
        if call[0] in (1, 2, 3, 4):
            t = max(t, call[1])
        calls.append(call)
    return calls


class ClockCase(unittest.TestCase):
    def check(self, *steps):
        """Each step is a call and what it is to be answered."""
        self.assertEqual(ask([call for call, due in steps]), [due for call, due in steps])

    def falls(self, calls, t, player):
        """The flag of this player falls at t, not a millisecond sooner."""
        self.assertEqual(ask(calls + [now(t - 1)])[-1], 0)
        self.assertEqual(ask(calls + [now(t)])[-1], 100 + player)
        self.assertEqual(ask(calls + [now(t - 1), now(t)])[-2:], [0, 100 + player])
