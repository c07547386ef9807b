import unittest

from tests.helper import ask, begin, run, state

LOW, TOP = -2147483648, 2147483647


class Begin(unittest.TestCase):
    def test_ordinary(self):
        self.assertEqual(ask(begin(20, 7, 5, 3), state()), [[0], [0, 0, 5, 0, 0, 0, 0, 0]])

    def test_edges_are_taken(self):
        for call in (begin(1, 1, 1, 1), begin(64, 1000, 1000, 1000), begin(1, 1000, 1, 1000),
                     begin(64, 1, 1000, 1), begin(64, 1, 1, 1000), begin(1, 1000, 1000, 1)):
            self.assertEqual(ask(begin(), call, state()), [[0], [0], [0, 0, call[3], 0, 0, 0, 0, 0]])

    def test_just_beyond_is_refused(self):
        for place, beyond in ((1, 65), (2, 1001), (3, 1001), (4, 1001)):
            for value in (0, -1, LOW, beyond, TOP):
                call = begin(8, 9, 10, 11)
                call[place] = value
                with self.subTest(call=call):
                    self.assertEqual(ask(begin(5, 6, 7, 8), call, state()),
                                     [[0], [-2], [0, 0, 7, 0, 0, 0, 0, 0]])

    def test_room_has_its_own_bound(self):
        self.assertEqual(ask(begin(), begin(1000, 64, 64, 64), begin(64, 65, 65, 65))[1:], [[-2], [0]])

    def test_each_value_is_held_as_told(self):
        # in: 1 + move; next phase: 1; gate, high, gate; out: 1 + move
        room, high, gate, move = 64, 1000, 999, 998
        gone_in = 1 + move
        gone_out = gone_in + 1 + gate + high + gate + 1 + move
        told = ask(begin(room, high, gate, move), run(gone_out, [(1, 5, 64, 0)]), state())[1:]
        self.assertEqual(told, [[4, 4 * gone_in, 5, 4 * gone_out + 1, 5], [4, high, 0, gate, 0, 0, 0, 0]])

    def test_all_the_shortest(self):
        told = ask(begin(1, 1, 1, 1), run(8, [(1, 5, 1, 0)]), state())[1:]
        self.assertEqual(told, [[4, 8, 5, 33, 5], [4, 1, 0, 1, 0, 0, 0, 0]])

    def test_again_taken_begins_anew(self):
        comings = [(1, 1, 3, 0), (1, 2, 3, 0), (1, 3, 3, 1), (2, 4, 9, 0)]
        for n in range(2, 60):
            parts = ask(begin(), run(n, comings), begin(11, 4, 6, 5), state(), run(100), state())
            self.assertEqual(parts[2:], [[0], [0, 0, 6, 0, 0, 0, 0, 0], [0], [0, 0, 6, 0, 0, 0, 0, 0]])

    def test_again_taken_has_the_new_values(self):
        parts = ask(begin(10, 3, 2, 2), begin(4, 1, 1, 1), run(9, [(1, 8, 5, 0)]), run(8, [(1, 8, 4, 0)]), state())
        self.assertEqual(parts[2:], [[-2], [4, 8, 8, 33, 8], [4, 1, 0, 1, 0, 0, 0, 0]])

    def test_again_refused_leaves_what_is_held(self):
        comings = [(1, 1, 3, 0), (1, 2, 3, 0), (1, 3, 3, 1), (2, 4, 9, 0)]
        for n in range(2, 60):
            plain = ask(begin(), run(n, comings), state(), run(100), state())
            refused = ask(begin(), run(n, comings), begin(65, 4, 6, 5), begin(9, 0, 6, 5), begin(9, 4, 1001, 5),
                          begin(9, 4, 6, -1), state(), run(100), state())
            self.assertEqual(refused[2:6], [[-2]] * 4)
            self.assertEqual(refused[6:], plain[2:])

    def test_refused_leaves_room_and_lengths_of_moves(self):
        parts = ask(begin(10, 3, 2, 2), begin(64, 1, 1, 0), run(14, [(1, 7, 11, 0)]), run(14, [(1, 7, 10, 0)]))
        self.assertEqual(parts[1:], [[-2], [-2], [4, 12, 7, 57, 7]])
