import contextlib
import io
import unittest

import shiplock.desk
from tests.helper import ask, begin, run, state

CALLS = (begin() + state() + run(20, [(1, 7, 4, 0), (10, 8, 5, 1)]) + state() + run(20, m=-1) + begin(0)
         + run(10, most=1) + run(20) + begin(5, 1, 1, 1) + state() + run(0))
ANSWERS = [1, 0,
           8, 0, 0, 2, 0, 0, 0, 0, 0,
           7, 6, 12, 7, 57, 7, 70, 8,
           8, 6, 3, 0, 0, 1, 0, 0, 0,
           1, -2,
           1, -2,
           1, -3,
           3, 2, 35, 8,
           1, 0,
           8, 0, 0, 1, 0, 0, 0, 0, 0,
           1, 0]


def forbidden(self, *given):
    raise AssertionError("the list that was handed in is changed")


class Untouchable(list):
    """A list that can't be changed, not for a while either."""


for changing in ("append", "extend", "insert", "pop", "remove", "reverse", "sort", "clear",
                 "__setitem__", "__delitem__", "__iadd__", "__imul__"):
    setattr(Untouchable, changing, forbidden)


class Answers(unittest.TestCase):
    def test_several_calls(self):
        self.assertEqual(shiplock.desk.answers(list(CALLS)), ANSWERS)

    def test_begin_alone(self):
        self.assertEqual(shiplock.desk.answers([0, 1, 1, 1, 1]), [1, 0])

    def test_handed_in_is_as_it_was(self):
        calls = list(CALLS)
        given = shiplock.desk.answers(calls)
        self.assertEqual(calls, CALLS)
        self.assertIsNot(given, calls)

    def test_not_changed_for_a_while_either(self):
        self.assertEqual(shiplock.desk.answers(Untouchable(CALLS)), ANSWERS)

    def test_a_second_time_answers_as_the_first(self):
        first = shiplock.desk.answers(list(CALLS))
        first_as_it_was = list(first)
        shiplock.desk.answers(begin(64, 9, 9, 9) + run(5, [(1, 1, 60, 1)]))
        second = shiplock.desk.answers(list(CALLS))
        self.assertEqual(second, first)
        first.append(1)
        second.clear()
        self.assertEqual(shiplock.desk.answers(list(CALLS)), first_as_it_was)

    def test_kinds(self):
        given = shiplock.desk.answers(list(CALLS))
        self.assertIs(type(given), list)
        self.assertEqual({type(number) for number in given}, {int})

    def test_prints_nothing(self):
        out, errors = io.StringIO(), io.StringIO()
        with contextlib.redirect_stdout(out), contextlib.redirect_stderr(errors):
            shiplock.desk.answers(list(CALLS))
        self.assertEqual((out.getvalue(), errors.getvalue()), ("", ""))

    def test_300_calls(self):
        parts = ask(begin(), *[run(1000000, [(999000, k, 10, k % 2)]) for k in range(298)], state())
        self.assertEqual(len(parts), 300)
        self.assertEqual(sum(part[0] for part in parts[1:-1]), 298 * 4)

    def test_long_lists_are_gone_through_by_loops(self):
        fill = [run(1, [(1, 1024 * k + j, 1, j % 2) for j in range(1024)]) for k in range(4)]
        parts = ask(begin(1, 1, 1, 1), *fill, run(1000000, most=16383), run(1000000), state())
        # one has gone in while the four runs went by; the last goes out below
        self.assertEqual([part[0] for part in parts[1:6]], [0, 2, 0, 0, 16382])
        self.assertEqual(parts[6:], [[0], [0, 0, 1, 0, 0, 0, 0, 0]])
