"""The clocks of the players at one table, and the calls on them."""

WRONG = -22
ALREADY_FALLEN = -41
GOES_ALREADY = -17
# Of press and pause: time is stopped. Of set: it isn't.
NOT_NOW = -16
FALLEN = 100

PLAIN = 0
ADDED = 1
GIVEN_BACK = 2
DELAYED = 3
BY_PERIODS = 4
HOURGLASS = 5

ROW = 5
FEWEST_PLAYERS = 2
MOST_PLAYERS = 4
MOST_PHASES = 3
MOST_MOVES = 200
MOST_MAIN = 86400000
MOST_INC = 3600000
MOST_PERIODS = 20
LATEST = 1000000000
MOST_LEFT = 1000000000
MOST_SET = 86400000
MOVES_TOLD_BELOW = 4294967296


class Phase:
    def __init__(self, row):
        self.moves = row[0]
        self.main = row[1]
        self.kind = row[2]
        self.inc = row[3]
        self.periods = row[4]


def phases_of(numbers):
    return [Phase(numbers[k:k + ROW]) for k in range(0, len(numbers), ROW)]


def moves_hold(phase, is_last):
    if is_last:
        return phase.moves == 0
    return 1 <= phase.moves <= MOST_MOVES


def kind_holds(phase, is_only):
    if phase.kind == HOURGLASS:
        return is_only
    return PLAIN <= phase.kind < HOURGLASS


def inc_holds(phase):
    if phase.kind == PLAIN or phase.kind == HOURGLASS:
        return phase.inc == 0
    return 1 <= phase.inc <= MOST_INC


def periods_hold(phase):
    if phase.kind == BY_PERIODS:
        return 1 <= phase.periods <= MOST_PERIODS
    return phase.periods == 0


def phase_holds(phase, is_last, is_only):
    if not moves_hold(phase, is_last) or not kind_holds(phase, is_only):
        return False
    if not 1 <= phase.main <= MOST_MAIN:
        return False
    return inc_holds(phase) and periods_hold(phase)


def phases_hold(phases):
    count = len(phases)
    if not 1 <= count <= MOST_PHASES:
        return False
    for k, phase in enumerate(phases):
        if not phase_holds(phase, k == count - 1, count == 1):
            return False
    return True


def cost_of(phase, used, span):
    if phase.kind != DELAYED:
        return span
    # The delay belongs to the whole move, so what was used before this span counts against it.
    free = max(0, phase.inc - used)
    return max(0, span - free)


def left_when_moved(player, phase, used):
    if phase.kind == ADDED:
        return player.time_left + phase.inc
    if phase.kind == GIVEN_BACK:
        return player.time_left + min(used, phase.inc)
    if phase.kind == BY_PERIODS and player.in_period == 1:
        return phase.inc
    return player.time_left


class Player:
    def __init__(self, phase):
        self.time_left = phase.main
        self.periods = phase.periods
        self.in_period = 0
        self.phase_number = 0
        self.moves = 0

    # Answers how much was there to be spent: an hourglass hands on just that.
    def spend(self, cost, inc):
        rest = cost
        while self.periods > 0 and rest >= self.time_left:
            rest -= self.time_left
            self.periods -= 1
            self.time_left = inc
            self.in_period = 1
        spent = min(rest, self.time_left)
        self.time_left -= spent
        return spent

    def enter_next(self, phase):
        self.time_left += phase.main
        self.periods = phase.periods
        self.in_period = 0
        self.phase_number += 1
        self.moves = 0


class Clocks:
    def __init__(self):
        self.lay_out(0, [])

    def lay_out(self, count, phases):
        self.phases = phases
        self.players = [Player(phases[0]) for k in range(count)]
        self.moment = 0
        self.running = False
        self.mover = 0
        self.used = 0
        self.loser = None

    def start(self, count, numbers):
        phases = phases_of(numbers)
        if not FEWEST_PLAYERS <= count <= MOST_PLAYERS or not phases_hold(phases):
            return WRONG
        self.lay_out(count, phases)
        return 0

    def go(self, t):
        if not self.may_become(t):
            return WRONG
        if self.loser is not None:
            return ALREADY_FALLEN
        if self.running:
            return GOES_ALREADY
        self.moment = t
        self.running = True
        return 0

    def now(self, t):
        if not self.may_become(t):
            return WRONG
        self.run_until(t)
        return self.verdict()

    def press(self, t):
        reached = self.reach(t)
        if reached != 0:
            return reached
        self.end_move()
        return self.mover

    # What was used of this move stays: the move goes on behind the pause.
    def pause(self, t):
        reached = self.reach(t)
        if reached == 0:
            self.running = False
        return reached

    def set_left(self, number, amount):
        if not self.has_player(number) or not 1 <= amount <= MOST_SET:
            return WRONG
        if self.loser is not None:
            return ALREADY_FALLEN
        if self.running:
            return NOT_NOW
        player = self.players[number]
        player.time_left = amount
        return 0

    def left(self, number):
        if not self.has_player(number):
            return [WRONG]
        player = self.players[number]
        moves = player.moves % MOVES_TOLD_BELOW
        return [player.time_left, player.periods, player.in_period, player.phase_number, moves]

    def state(self):
        return [self.verdict(), self.mover, self.moment, 1 if self.running else 0]

    # 0 where press or pause may go on; else what they answer.
    def reach(self, t):
        if not self.may_become(t):
            return WRONG
        if self.loser is not None:
            return ALREADY_FALLEN
        if not self.running:
            return NOT_NOW
        self.run_until(t)
        return self.verdict()

    def has_player(self, number):
        return number < len(self.players)

    def may_become(self, t):
        return self.moment <= t <= LATEST

    def verdict(self):
        if self.loser is None:
            return 0
        return FALLEN + self.loser

    def next_number(self):
        return (self.mover + 1) % len(self.players)

    def run_until(self, t):
        span = t - self.moment
        self.moment = t
        if self.running:
            self.run(span)

    def run(self, span):
        player = self.players[self.mover]
        phase = self.phases[player.phase_number]
        spent = player.spend(cost_of(phase, self.used, span), phase.inc)
        self.used += span
        if phase.kind == HOURGLASS:
            receiver = self.players[self.next_number()]
            receiver.time_left += spent
        if player.time_left == 0:
            self.loser = self.mover
            self.running = False

    def end_move(self):
        player = self.players[self.mover]
        phase = self.phases[player.phase_number]
        player.time_left = left_when_moved(player, phase, self.used)
        player.moves += 1
        # A last phase lasts 0 moves, which no count of moves made is equal to.
        if player.moves == phase.moves:
            player.enter_next(self.phases[player.phase_number + 1])
        # Cut off sand would be lost.
        if phase.kind != HOURGLASS:
            player.time_left = min(player.time_left, MOST_LEFT)
        self.mover = self.next_number()
        self.used = 0
