"""What the tests share: calls as lists, answers taken apart, and the lock told second by second."""

from shiplock.desk import answers


def begin(room=10, high=3, gate=2, move=2):
    return [0, room, high, gate, move]


def run(n, comings=(), most=65536, m=None):
    """comings: tuples of time, name, length, above."""
    flat = [number for coming in comings for number in coming]
    return [1, len(comings) if m is None else m, n, most, len(flat)] + flat


def state():
    return [2]


def take_apart(given):
    parts = []
    at = 0
    while at < len(given):
        parts.append(given[at + 1:at + 1 + given[at]])
        at += 1 + given[at]
    if at != len(given):
        raise ValueError("the last answer is cut off")
    return parts


def ask(*calls):
    """The answers, a list for each call."""
    return take_apart(answers([number for call in calls for number in call]))


class SlowLock:
    """The document's words on each second, one by one: what the program is measured against."""

    def __init__(self, room, high, gate, move):
        self.room, self.high, self.gate, self.move = room, high, gate, move
        self.phase, self.water, self.lower, self.upper = 0, 0, gate, 0
        self.chamber, self.below, self.above = [], [], []
        self.to_go_out, self.mover, self.going_in, self.seconds = 0, None, False, 0

    def next_phase(self):
        self.phase = (self.phase + 1) % 8
        if self.phase in (0, 4):
            self.to_go_out = len(self.chamber)

    def at_open_gate(self):
        here, there = (self.below, self.above) if self.phase == 0 else (self.above, self.below)
        if self.mover is not None:
            self.seconds -= 1
            if self.seconds > 0:
                return None
            ship, self.mover = self.mover, None
            if self.going_in:
                self.chamber.append(ship)
                return (0 if self.phase == 0 else 2, ship[0])
            return (3 if self.phase == 0 else 1, ship[0])
        if self.to_go_out:
            self.to_go_out -= 1
            self.mover, self.going_in, self.seconds = self.chamber.pop(0), False, self.move
        elif here:
            if sum(ship[1] for ship in self.chamber) + here[0][1] <= self.room:
                self.mover, self.going_in, self.seconds = here.pop(0), True, self.move
            else:
                self.next_phase()
        elif self.chamber or there:
            self.next_phase()
        return None

    def one_second(self):
        if self.phase in (0, 4):
            return self.at_open_gate()
        if self.phase == 1:
            self.lower -= 1
            done = self.lower == 0
        elif self.phase == 2:
            self.water += 1
            done = self.water == self.high
        elif self.phase == 3:
            self.upper += 1
            done = self.upper == self.gate
        elif self.phase == 5:
            self.upper -= 1
            done = self.upper == 0
        elif self.phase == 6:
            self.water -= 1
            done = self.water == 0
        else:
            self.lower += 1
            done = self.lower == self.gate
        if done:
            self.next_phase()
        return None

    def run(self, n, comings):
        told = []
        for second in range(1, n + 1):
            for time, name, length, above in comings:
                if time == second:
                    (self.above if above else self.below).append((name, length))
            happened = self.one_second()
            if happened is not None:
                told += [4 * second + happened[0], happened[1]]
        return [len(told)] + told

    def state(self):
        return [self.phase, self.water, self.lower, self.upper,
                len(self.chamber), len(self.below), len(self.above), self.seconds]
