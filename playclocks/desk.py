"""Calls on one new object, told and answered as lists of whole numbers."""

from playclocks.clocks import Clocks

START = 0
GO = 1
NOW = 2
PRESS = 3
PAUSE = 4
SET = 5
LEFT = 6
STATE = 7


def end_of_call(calls, place):
    if calls[place] == START:
        return place + 3 + calls[place + 2]
    if calls[place] == SET:
        return place + 3
    if calls[place] == STATE:
        return place + 1
    return place + 2


def answer(clocks, call):
    if call[0] == START:
        return [clocks.start(call[1], call[3:])]
    if call[0] == GO:
        return [clocks.go(call[1])]
    if call[0] == NOW:
        return [clocks.now(call[1])]
    if call[0] == PRESS:
        return [clocks.press(call[1])]
    if call[0] == PAUSE:
        return [clocks.pause(call[1])]
    if call[0] == SET:
        return [clocks.set_left(call[1], call[2])]
    if call[0] == LEFT:
        return clocks.left(call[1])
    if call[0] == STATE:
        return clocks.state()
    raise KeyError(call[0])


def answers(calls):
    clocks = Clocks()
    given = []
    place = 0
    while place < len(calls):
        end = end_of_call(calls, place)
        answered = answer(clocks, calls[place:end])
        given.append(len(answered))
        given.extend(answered)
        place = end
    return given
