"""The desk of a lock for ships: it takes calls and gives back what they answer."""

WRONG_VALUE = -2
TOO_MUCH_TO_TELL = -3
TOO_MANY_SHIPS = -4

MOST_SHIPS = 4096


class Lock:
    """A chamber between two waters. A ship is its name and its length; side 0 is below, side 1 above."""

    def __init__(self, room, high, gate, move):
        self.room = room
        self.high = high
        self.gate = gate
        self.move = move
        self.phase = 0
        self.water = 0
        self.openings = [gate, 0]
        self.waiting = [[], []]
        self.chamber = []
        self.filled = 0
        self.leaving = 0
        self.mover = None
        self.inward = False
        self.to_go = 0

    def twin(self):
        """A second lock that stands as this one does and shares no list with it."""
        other = Lock(self.room, self.high, self.gate, self.move)
        other.phase = self.phase
        other.water = self.water
        other.openings = list(self.openings)
        other.waiting = [list(self.waiting[0]), list(self.waiting[1])]
        other.chamber = list(self.chamber)
        other.filled = self.filled
        other.leaving = self.leaving
        other.mover = self.mover
        other.inward = self.inward
        other.to_go = self.to_go
        return other

    def near_side(self):
        """The side whose gate is open, or was open last."""
        return self.phase // 4

    def ship_count(self):
        """How many ships wait, are in the chamber or on the move."""
        moving = 1 if self.to_go > 0 else 0
        return len(self.waiting[0]) + len(self.waiting[1]) + len(self.chamber) + moving

    def seconds_left(self):
        """How many seconds the ship, gate or water that moves has to go; 0: none of them moves."""
        stage = self.phase % 4
        if stage == 0:
            return self.to_go
        if stage == 1:
            return self.openings[self.near_side()]
        if stage == 2:
            return self.high - self.water if self.phase == 2 else self.water
        return self.gate - self.openings[1 - self.near_side()]

    def go_on(self, seconds):
        """Let the ship, gate or water move for so many seconds, at most those that it has to go."""
        stage = self.phase % 4
        if stage == 0:
            self.to_go -= seconds
        elif stage == 1:
            self.openings[self.near_side()] -= seconds
        elif stage == 2:
            self.water += seconds if self.phase == 2 else -seconds
        else:
            self.openings[1 - self.near_side()] += seconds

    def arrive(self, second):
        """End the move that has no seconds left; answer the numbers that tell of it."""
        if self.phase % 4 == 0:
            return self.end_ship_move(second)
        self.turn_phase()
        return []

    def turn_phase(self):
        """Go to the next phase."""
        self.phase = (self.phase + 1) % 8
        if self.phase % 4 == 0:
            self.leaving = len(self.chamber)

    def start_ship_move(self, ship, inward):
        """Put a ship on the move, in or out."""
        self.mover = ship
        self.inward = inward
        self.to_go = self.move

    def end_ship_move(self, second):
        """The ship on the move has gone in or out; answer the two numbers that tell of it."""
        ship = self.mover
        self.mover = None
        side = self.near_side()
        if self.inward:
            self.chamber.append(ship)
            self.filled += ship[1]
            return [4 * second + 2 * side, ship[0]]
        return [4 * second + 3 - 2 * side, ship[0]]

    def send_out(self):
        """The first ship in the chamber leaves it."""
        ship = self.chamber.pop(0)
        self.filled -= ship[1]
        self.leaving -= 1
        self.start_ship_move(ship, False)

    def choose(self):
        """One second at an open gate with no ship on the move; answer whether anything was done in it."""
        side = self.near_side()
        queue = self.waiting[side]
        if self.leaving > 0:
            self.send_out()
        elif len(queue) > 0 and self.filled + queue[0][1] <= self.room:
            self.start_ship_move(queue.pop(0), True)
        elif len(queue) > 0 or len(self.chamber) > 0 or len(self.waiting[1 - side]) > 0:
            self.turn_phase()
        else:
            return False
        return True

    def take_comings(self, comings, place, second):
        """Let those wait that come up to this second, from this place on; answer the place behind them."""
        while place < len(comings) and comings[place] <= second:
            self.waiting[comings[place + 3]].append((comings[place + 1], comings[place + 2]))
            place += 4
        return place

    def state(self):
        """The phase, and the seven numbers behind it."""
        below = len(self.waiting[0])
        above = len(self.waiting[1])
        return [self.phase, self.water, self.openings[0], self.openings[1],
                len(self.chamber), below, above, self.to_go]


def pass_seconds(lock, n, most, comings):
    """Let n seconds go by; answer what is told of them. It stops early once that is more than most numbers."""
    told = []
    second = 0
    place = 0
    while second < n and len(told) <= most:
        left = lock.seconds_left()
        if left > 0:
            # A move under way looks at nobody who waits, so all its seconds can go by at once.
            step = min(left, n - second)
            second += step
            lock.go_on(step)
            if step == left:
                told.extend(lock.arrive(second))
        else:
            second += 1
            place = lock.take_comings(comings, place, second)
            if not lock.choose():
                # An empty lock stays as it is until somebody comes.
                second = comings[place] - 1 if place < len(comings) else n
    lock.take_comings(comings, place, n)
    return told


def within(value, least, greatest):
    """Whether the value lies between these two, or is one of them."""
    return least <= value and value <= greatest


def comings_are_right(comings, n, room):
    """Whether each coming has a time, a length and a side that may be."""
    earliest = 1
    for place in range(0, len(comings), 4):
        if not within(comings[place], earliest, n):
            return False
        if not within(comings[place + 2], 1, room) or not within(comings[place + 3], 0, 1):
            return False
        earliest = comings[place]
    return True


class Desk:
    """Holds the one lock that the calls are about."""

    def __init__(self):
        self.lock = None

    def begin(self, room, high, gate, move):
        """A new lock takes the place of the one that was held."""
        if not within(room, 1, 64) or not within(high, 1, 1000):
            return [WRONG_VALUE]
        if not within(gate, 1, 1000) or not within(move, 1, 1000):
            return [WRONG_VALUE]
        self.lock = Lock(room, high, gate, move)
        return [0]

    def run(self, m, n, most, comings):
        """n seconds go by, in which m ships come."""
        if not within(m, 0, 1024) or not within(n, 0, 1000000) or not within(most, 0, 65536):
            return [WRONG_VALUE]
        if not comings_are_right(comings, n, self.lock.room):
            return [WRONG_VALUE]
        if self.lock.ship_count() + m > MOST_SHIPS:
            return [TOO_MANY_SHIPS]
        # The seconds go by in a twin, for only at their end is it known whether there is too much to tell.
        later = self.lock.twin()
        told = pass_seconds(later, n, most, comings)
        if len(told) > most:
            return [TOO_MUCH_TO_TELL]
        self.lock = later
        return [len(told)] + told

    def answer(self, call):
        """The numbers that one call answers."""
        if call[0] == 0:
            return self.begin(call[1], call[2], call[3], call[4])
        if call[0] == 1:
            return self.run(call[1], call[2], call[3], call[5:])
        return self.lock.state()


def call_length(calls, start):
    """How many numbers the call has that starts here."""
    if calls[start] == 0:
        return 5
    if calls[start] == 1:
        return 5 + calls[start + 4]
    return 1


def answers(calls):
    """What the calls on one new lock answer: for each how many numbers, and these."""
    desk = Desk()
    given = []
    start = 0
    while start < len(calls):
        end = start + call_length(calls, start)
        answer = desk.answer(calls[start:end])
        given.append(len(answer))
        given.extend(answer)
        start = end
    return given
