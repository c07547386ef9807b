import unittest

from tests.helper import ask, begin, run, state

LOW, TOP = -2147483648, 2147483647


def told(*happened):
    """happened: tuples of second, what, name."""
    numbers = []
    for second, what, name in happened:
        numbers += [4 * second + what, name]
    return [len(numbers)] + numbers


class Ordinary(unittest.TestCase):
    def test_one_up(self):
        self.assertEqual(ask(begin(), run(20, [(1, 7, 4, 0)]))[1], told((3, 0, 7), (14, 1, 7)))

    def test_one_down_from_the_lower_water(self):
        # 1: next phase; 2 + 3 + 2 seconds; 9: on the move in; 12: next phase; 20: on the move out
        parts = ask(begin(), run(30, [(1, 9, 4, 1)]), state())
        self.assertEqual(parts[1:], [told((11, 2, 9), (22, 3, 9)), [0, 0, 2, 0, 0, 0, 0, 0]])

    def test_up_and_down_through_all_phases(self):
        parts = ask(begin(), run(40, [(1, 7, 4, 0), (10, 8, 5, 1)]))
        self.assertEqual(parts[1], told((3, 0, 7), (14, 1, 7), (17, 2, 8), (28, 3, 8)))

    def test_several_in_the_chamber_and_one_without_room(self):
        comings = [(1, 1, 4, 0), (1, 2, 4, 0), (1, 3, 3, 0), (1, 4, 10, 1)]
        self.assertEqual(ask(begin(), run(55, comings))[1], told(
            (3, 0, 1), (6, 0, 2), (17, 1, 1), (20, 1, 2), (23, 2, 4), (34, 3, 4), (37, 0, 3), (48, 1, 3)))

    def test_room_to_the_last(self):
        comings = [(1, 1, 4, 0), (1, 2, 6, 0), (1, 3, 1, 0)]
        self.assertEqual(ask(begin(), run(20, comings))[1], told((3, 0, 1), (6, 0, 2), (17, 1, 1), (20, 1, 2)))

    def test_a_shorter_one_does_not_overtake(self):
        comings = [(1, 1, 6, 0), (1, 2, 5, 0), (1, 3, 1, 0)]
        self.assertEqual(ask(begin(), run(14, comings), state())[1:],
                         [told((3, 0, 1), (14, 1, 1)), [4, 3, 0, 2, 0, 2, 0, 0]])

    def test_room_of_those_gone_out_is_free_again(self):
        comings = [(1, 1, 10, 0), (1, 2, 10, 1), (1, 3, 10, 0)]
        self.assertEqual(ask(begin(), run(42, comings))[1], told(
            (3, 0, 1), (14, 1, 1), (17, 2, 2), (28, 3, 2), (31, 0, 3), (42, 1, 3)))

    def test_all_go_out_before_one_goes_in(self):
        comings = [(1, 1, 1, 0), (1, 2, 1, 0), (1, 3, 1, 0), (1, 4, 1, 1)]
        self.assertEqual(ask(begin(), run(29, comings))[1], told(
            (3, 0, 1), (6, 0, 2), (9, 0, 3), (20, 1, 1), (23, 1, 2), (26, 1, 3), (29, 2, 4)))

    def test_those_gone_in_here_do_not_go_out_here(self):
        comings = [(1, 1, 1, 0), (4, 2, 1, 0)]
        self.assertEqual(ask(begin(), run(8, comings), state())[1:],
                         [told((3, 0, 1), (6, 0, 2)), [1, 0, 1, 0, 2, 0, 0, 0]])

    def test_one_who_comes_while_the_gate_shuts_waits(self):
        # 1 is out above at 14; 15: somebody waits below: next phase
        comings = [(1, 1, 1, 0), (5, 2, 1, 0)]
        self.assertEqual(ask(begin(), run(36, comings))[1], told((3, 0, 1), (14, 1, 1), (25, 0, 2), (36, 1, 2)))

    def test_stays_above_when_nobody_is_there(self):
        parts = ask(begin(), run(14, [(1, 7, 4, 0)]), run(1000000), state(), run(3, [(1, 8, 4, 1)]))
        self.assertEqual(parts[2:], [[0], [4, 3, 0, 2, 0, 0, 0, 0], told((3, 2, 8))])

    def test_one_who_comes_late_into_an_empty_lock(self):
        parts = ask(begin(), run(1000000, [(999998, 8, 4, 0)]), state())
        self.assertEqual(parts[1:], [told((1000000, 0, 8)), [0, 0, 2, 0, 1, 0, 0, 0]])
        parts = ask(begin(), run(1000000, [(1000000, 8, 4, 1)]), state())
        self.assertEqual(parts[1:], [[0], [1, 0, 2, 0, 0, 0, 1, 0]])

    def test_same_second_keeps_the_order_on_each_side(self):
        comings = [(2, 5, 1, 0), (2, 9, 1, 1), (2, 3, 1, 0), (2, 4, 1, 1), (2, 5, 1, 0)]
        self.assertEqual(ask(begin(), run(37, comings))[1], told(
            (4, 0, 5), (7, 0, 3), (10, 0, 5), (21, 1, 5), (24, 1, 3), (27, 1, 5), (30, 2, 9), (33, 2, 4)))

    def test_comes_in_the_very_second_of_the_choice(self):
        # 4: the gate would begin to shut; who comes at 4 is still let in, who comes at 5 is not
        self.assertEqual(ask(begin(), run(6, [(1, 1, 1, 0), (4, 2, 1, 0)]))[1], told((3, 0, 1), (6, 0, 2)))
        self.assertEqual(ask(begin(), run(6, [(1, 1, 1, 0), (5, 2, 1, 0)]))[1], told((3, 0, 1)))

    def test_comes_in_the_last_second_of_a_move(self):
        parts = ask(begin(), run(3, [(1, 1, 1, 0), (3, 2, 1, 0)]), state(), run(3))
        self.assertEqual(parts[1:], [told((3, 0, 1)), [0, 0, 2, 0, 1, 1, 0, 0], told((3, 0, 2))])

    def test_names_to_the_edges(self):
        comings = [(1, 0, 1, 0), (1, 4294967295, 1, 0)]
        self.assertEqual(ask(begin(), run(6, comings))[1], told((3, 0, 0), (6, 0, 4294967295)))


class OneBehindAnother(unittest.TestCase):
    def test_goes_on_where_the_last_stopped_and_counts_from_1(self):
        comings = [(1, 1, 4, 0), (1, 2, 4, 0), (1, 3, 3, 0), (1, 4, 10, 1)]
        whole = ask(begin(), run(55, comings), state())
        for cut in range(1, 56):
            parts = ask(begin(), run(cut, comings), run(55 - cut), state())
            second = parts[2][1:]
            moved = [number if k % 2 else number + 4 * cut for k, number in enumerate(second)]
            self.assertEqual(parts[1][1:] + moved, whole[1][1:])
            self.assertEqual(parts[1][0] + parts[2][0], whole[1][0])
            self.assertEqual(parts[3], whole[2])

    def test_no_seconds(self):
        parts = ask(begin(), run(0), state(), run(5, [(1, 7, 4, 0)]), state(), run(0, most=0), state())
        self.assertEqual(parts[1:], [[0], [0, 0, 2, 0, 0, 0, 0, 0], told((3, 0, 7)), [1, 0, 1, 0, 1, 0, 0, 0],
                                     [0], [1, 0, 1, 0, 1, 0, 0, 0]])

    def test_no_comings(self):
        self.assertEqual(ask(begin(), run(100), state())[1:], [[0], [0, 0, 2, 0, 0, 0, 0, 0]])

    def test_later_comings_wait_behind_the_earlier(self):
        parts = ask(begin(), run(1, [(1, 1, 1, 0), (1, 2, 1, 0)]), run(8, [(1, 3, 1, 0)]))
        self.assertEqual(parts[2], told((2, 0, 1), (5, 0, 2), (8, 0, 3)))


class Refused(unittest.TestCase):
    def refused(self, call, number):
        """The call is refused, and before and behind it all is as without it."""
        before = [begin(), run(4, [(1, 1, 4, 0), (1, 2, 4, 0), (1, 3, 3, 0), (1, 4, 10, 1)])]
        behind = [state(), run(60), state()]
        parts = ask(*before, call, *behind)
        self.assertEqual(parts[2], [number], call)
        self.assertEqual(parts[:2] + parts[3:], ask(*before, *behind), call)

    def taken(self, call):
        self.assertGreaterEqual(ask(begin(), call)[1][0], 0, call[:5])

    def test_m(self):
        for m in (-1, 1025, LOW, TOP):
            self.refused(run(10, m=m), -2)
        self.taken(run(10, [(1, 1, 1, 0)] * 1024))
        self.taken(run(10, m=0))

    def test_n(self):
        for n in (-1, 1000001, LOW, TOP):
            self.refused(run(n), -2)
        self.taken(run(1000000))
        self.taken(run(0))

    def test_most(self):
        for most in (-1, 65537, LOW, TOP):
            self.refused(run(0, most=most), -2)
        self.taken(run(10, most=65536))
        self.taken(run(10, most=0))

    def test_time(self):
        for time in (0, 11, 4294967295):
            self.refused(run(10, [(time, 1, 1, 0)]), -2)
        self.refused(run(0, [(1, 1, 1, 0)]), -2)
        self.refused(run(0, [(0, 1, 1, 0)]), -2)
        self.taken(run(10, [(1, 1, 1, 0)]))
        self.taken(run(10, [(10, 1, 1, 0)]))
        self.taken(run(1, [(1, 1, 1, 0)]))

    def test_time_that_goes_down(self):
        self.refused(run(10, [(5, 1, 1, 0), (4, 2, 1, 0)]), -2)
        self.refused(run(10, [(1, 1, 1, 0), (5, 2, 1, 0), (7, 2, 1, 0), (6, 2, 1, 1)]), -2)
        self.refused(run(10, [(2, 1, 1, 0), (1, 2, 1, 1)]), -2)
        self.refused(run(10, [(5, 1, 1, 0), (3, 1, 1, 0), (4, 2, 1, 0)]), -2)
        self.taken(run(10, [(5, 1, 1, 0), (5, 2, 1, 0), (6, 2, 1, 0)]))

    def test_length(self):
        for length in (0, 11, 255):
            self.refused(run(10, [(1, 1, length, 0)]), -2)
            self.refused(run(10, [(1, 1, 5, 0), (1, 1, length, 1)]), -2)
        self.taken(run(10, [(1, 1, 1, 0)]))
        self.taken(run(10, [(1, 1, 10, 0)]))
        self.assertEqual(ask(begin(64), run(2, [(1, 1, 64, 0)]), run(2, [(1, 1, 65, 0)]))[1:], [[0], [-2]])
        self.assertEqual(ask(begin(1), run(2, [(1, 1, 1, 0)]), run(2, [(1, 1, 2, 0)]))[1:], [[0], [-2]])

    def test_side(self):
        for above in (2, 3, 255):
            self.refused(run(10, [(1, 1, 1, above)]), -2)
            self.refused(run(10, [(1, 1, 1, 1), (1, 1, 1, above)]), -2)
        self.taken(run(10, [(1, 1, 1, 0), (1, 1, 1, 1)]))

    def test_one_wrong_coming_and_none_of_them_comes(self):
        right = [(k, k, 1, k % 2) for k in range(1, 10)]
        for wrong in ((11, 1, 1, 0), (8, 1, 1, 0), (10, 1, 0, 0), (10, 1, 11, 0), (10, 1, 1, 2)):
            self.refused(run(10, right + [wrong]), -2)

    def test_too_much_to_tell(self):
        # from second 4 on: 2 in, then 1 and 2 out above
        comings = [(1, 9, 1, 0), (3, 8, 1, 1)]
        self.refused(run(16, comings, most=5), -3)
        self.refused(run(16, comings, most=4), -3)
        self.refused(run(16, comings, most=1), -3)
        self.refused(run(16, comings, most=0), -3)
        self.refused(run(1000000, comings, most=0), -3)

    def test_just_as_many_as_most(self):
        comings = [(1, 7, 4, 0), (10, 8, 5, 1)]
        whole = told((3, 0, 7), (14, 1, 7), (17, 2, 8), (28, 3, 8))
        for most in (8, 9, 65536):
            self.assertEqual(ask(begin(), run(28, comings, most=most))[1], whole)
        for most in range(8):
            self.assertEqual(ask(begin(), run(28, comings, most=most), state())[1:],
                             [[-3], [0, 0, 2, 0, 0, 0, 0, 0]])
        self.assertEqual(ask(begin(), run(27, comings, most=6))[1], [6] + whole[1:7])
        self.assertEqual(ask(begin(), run(2, comings[:1], most=0))[1], [0])

    def test_after_too_much_to_tell_nothing_has_happened(self):
        comings = [(1, 1, 4, 0), (1, 2, 4, 0), (1, 3, 3, 0), (1, 4, 10, 1)]
        for cut in range(1, 47):
            parts = ask(begin(), run(cut, comings), state(), run(60, [(1, 5, 2, 0), (1, 6, 2, 1)], most=1), state(),
                        run(70), state())
            self.assertEqual(parts[3], [-3])
            self.assertEqual(parts[4], parts[2])
            self.assertEqual(parts[5:], ask(begin(), run(cut, comings), run(70), state())[2:])


class TooManyShips(unittest.TestCase):
    def fill(self, count, **values):
        """Calls that bring so many ships, 1 second each; with a move of 1000 none of them gets far."""
        calls = [begin(**values)]
        while count:
            some = min(count, 1024)
            calls.append(run(1, [(1, k, 1, k % 2) for k in range(some)]))
            count -= some
        return calls

    def test_4096_and_one_more(self):
        calls = self.fill(4096, move=1000)
        parts = ask(*calls, state(), run(1, [(1, 1, 1, 0)]), state(), run(1), state())
        self.assertEqual(parts[1:5], [[0]] * 4)
        self.assertEqual(parts[5:], [[0, 0, 2, 0, 0, 2047, 2048, 997], [-4], [0, 0, 2, 0, 0, 2047, 2048, 997],
                                     [0], [0, 0, 2, 0, 0, 2047, 2048, 996]])

    def test_just_4096_by_one(self):
        parts = ask(*self.fill(4095, move=1000), run(2, [(1, 1, 1, 1), (2, 1, 1, 1)]),
                    run(1, [(1, 1, 1, 1)]), run(1, [(1, 1, 1, 1)]), state())
        self.assertEqual(parts[5:], [[-4], [0], [-4], [0, 0, 2, 0, 0, 2047, 2048, 996]])

    def test_those_in_the_chamber_count_and_those_gone_out_do_not(self):
        # at 3 and 6 two have gone in, then the chamber is full; out above at 17
        calls = self.fill(4095, room=2) + [run(2, [(1, 1, 2, 0)])]
        one_more = [(1, 1, 1, 0)]
        parts = ask(*calls, state(), run(1, one_more), run(8), state(), run(1, one_more), run(2), state(),
                    run(1, one_more), run(1, one_more))
        self.assertEqual(parts[6], [0, 0, 2, 0, 2, 2047, 2047, 0])
        self.assertEqual(parts[7], [-4])
        self.assertEqual(parts[8:10], [[0], [4, 3, 0, 2, 2, 2047, 2047, 0]])
        self.assertEqual(parts[10], [-4])
        self.assertEqual(parts[11:13], [[0], [4, 3, 0, 2, 1, 2047, 2047, 1]])
        self.assertEqual(parts[13], [-4])
        self.assertEqual(parts[14], [-4])
        gone = ask(*calls, run(11), run(1, one_more), run(1, one_more), state())
        self.assertEqual(gone[6:], [told((11, 1, 0)), [0], [-4], [4, 3, 0, 2, 0, 2048, 2047, 2]])

    def test_those_that_would_go_out_meanwhile_count(self):
        self.assertEqual(ask(*self.fill(4096), run(1000000, [(1000000, 1, 1, 0)]))[-1], [-4])

    def test_which_refusal_comes_first(self):
        calls = self.fill(4096)
        for wrong in ((2, 1, 1, 0), (1, 1, 0, 0), (1, 1, 11, 0), (1, 1, 1, 2)):
            self.assertEqual(ask(*calls, run(1, [wrong]))[-1], [-2])
        self.assertEqual(ask(*calls, run(100, [(1, 1, 1, 0)], most=0))[-1], [-4])
        self.assertEqual(ask(*calls, run(100, [], most=0))[-1], [-3])
        self.assertEqual(ask(begin(), run(100, [(1, 1, 1, 0), (1, 1, 0, 0)], most=0))[-1], [-2])
