"""The program beside the lock that goes second by second."""

import random
import unittest

from tests.helper import SlowLock, ask, begin, run, state


def some_comings(chance, n, room, name):
    count = chance.randrange(0, 7) if n else 0
    times = sorted(chance.randint(1, n) for k in range(count))
    return [(time, name + k, chance.randint(1, room), chance.randrange(2)) for k, time in enumerate(times)]


class SecondBySecond(unittest.TestCase):
    def one_line(self, chance):
        values = (chance.choice((1, 2, 5, 64)), chance.randint(1, 5), chance.randint(1, 5), chance.randint(1, 5))
        slow = SlowLock(*values)
        calls, expected = [begin(*values)], [[0]]
        for k in range(chance.randint(1, 12)):
            n = chance.choice((0, 1, 2, 3, chance.randint(4, 30), chance.randint(30, 200)))
            comings = some_comings(chance, n, values[0], 100 * k)
            calls += [run(n, comings), state()]
            expected += [slow.run(n, comings), slow.state()]
        self.assertEqual(ask(*calls), expected)

    def test_many_lines(self):
        chance = random.Random(20261116)
        for line in range(1500):
            with self.subTest(line=line):
                self.one_line(chance)

    def test_every_way_of_coming_by_two(self):
        for first in range(1, 30):
            for second in range(first, 30):
                for sides in ((0, 0), (0, 1), (1, 0), (1, 1)):
                    comings = [(first, 1, 2, sides[0]), (second, 2, 2, sides[1])]
                    slow = SlowLock(3, 2, 2, 2)
                    expected = [[0], slow.run(70, comings), slow.state()]
                    self.assertEqual(ask(begin(3, 2, 2, 2), run(70, comings), state()), expected)
