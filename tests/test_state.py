import unittest

from tests.helper import ask, begin, run, state

# room 10, high 3, gate 2, move 2: one ship up, one down, and its second each
UP_AND_DOWN = [
    (1, [0, 0, 2, 0, 0, 0, 0, 2]),
    (2, [0, 0, 2, 0, 0, 0, 0, 1]),
    (3, [0, 0, 2, 0, 1, 0, 0, 0]),
    (4, [1, 0, 2, 0, 1, 0, 0, 0]),
    (5, [1, 0, 1, 0, 1, 0, 0, 0]),
    (6, [2, 0, 0, 0, 1, 0, 0, 0]),
    (7, [2, 1, 0, 0, 1, 0, 0, 0]),
    (8, [2, 2, 0, 0, 1, 0, 0, 0]),
    (9, [3, 3, 0, 0, 1, 0, 0, 0]),
    (10, [3, 3, 0, 1, 1, 0, 1, 0]),
    (11, [4, 3, 0, 2, 1, 0, 1, 0]),
    (12, [4, 3, 0, 2, 0, 0, 1, 2]),
    (13, [4, 3, 0, 2, 0, 0, 1, 1]),
    (14, [4, 3, 0, 2, 0, 0, 1, 0]),
    (15, [4, 3, 0, 2, 0, 0, 0, 2]),
    (16, [4, 3, 0, 2, 0, 0, 0, 1]),
    (17, [4, 3, 0, 2, 1, 0, 0, 0]),
    (18, [5, 3, 0, 2, 1, 0, 0, 0]),
    (19, [5, 3, 0, 1, 1, 0, 0, 0]),
    (20, [6, 3, 0, 0, 1, 0, 0, 0]),
    (21, [6, 2, 0, 0, 1, 0, 0, 0]),
    (22, [6, 1, 0, 0, 1, 0, 0, 0]),
    (23, [7, 0, 0, 0, 1, 0, 0, 0]),
    (24, [7, 0, 1, 0, 1, 0, 0, 0]),
    (25, [0, 0, 2, 0, 1, 0, 0, 0]),
    (26, [0, 0, 2, 0, 0, 0, 0, 2]),
    (27, [0, 0, 2, 0, 0, 0, 0, 1]),
    (28, [0, 0, 2, 0, 0, 0, 0, 0]),
    (29, [0, 0, 2, 0, 0, 0, 0, 0]),
]


class State(unittest.TestCase):
    def test_new(self):
        self.assertEqual(ask(begin(10, 3, 2, 2), state()), [[0], [0, 0, 2, 0, 0, 0, 0, 0]])

    def test_each_second_of_each_phase(self):
        comings = [(1, 7, 4, 0), (10, 8, 5, 1)]
        for second, stands in UP_AND_DOWN:
            with self.subTest(second=second):
                come = [coming for coming in comings if coming[0] <= second]
                self.assertEqual(ask(begin(), run(second, come), state())[2], stands)

    def test_each_second_by_runs_of_one_second(self):
        calls = [begin()]
        for second, stands in UP_AND_DOWN:
            calls += [run(1, {1: [(1, 7, 4, 0)], 10: [(1, 8, 5, 1)]}.get(second, [])), state()]
        self.assertEqual(ask(*calls)[2::2], [stands for second, stands in UP_AND_DOWN])

    def test_waiting_on_both_sides(self):
        comings = [(1, k, 4, 0) for k in range(5)] + [(1, k, 4, 1) for k in range(3)]
        # two go in (3, 6); the third finds no room (7)
        for n, stands in ((1, [0, 0, 2, 0, 0, 4, 3, 2]), (3, [0, 0, 2, 0, 1, 4, 3, 0]), (4, [0, 0, 2, 0, 1, 3, 3, 2]),
                          (6, [0, 0, 2, 0, 2, 3, 3, 0]), (7, [1, 0, 2, 0, 2, 3, 3, 0]), (9, [2, 0, 0, 0, 2, 3, 3, 0]),
                          (12, [3, 3, 0, 0, 2, 3, 3, 0]), (14, [4, 3, 0, 2, 2, 3, 3, 0]),
                          (15, [4, 3, 0, 2, 1, 3, 3, 2]), (17, [4, 3, 0, 2, 1, 3, 3, 0]),
                          (18, [4, 3, 0, 2, 0, 3, 3, 2]), (21, [4, 3, 0, 2, 0, 3, 2, 2])):
            with self.subTest(n=n):
                self.assertEqual(ask(begin(), run(n, comings), state())[2], stands)

    def test_asking_changes_nothing(self):
        comings = [(1, 7, 4, 0), (10, 8, 5, 1)]
        for second in range(10, 30):
            parts = ask(begin(), run(second, comings), state(), state(), run(50), state(), state())
            self.assertEqual(parts[2], parts[3])
            self.assertEqual(parts[5], parts[6])
            self.assertEqual(parts[4:6], ask(begin(), run(second, comings), run(50), state())[2:])
