"""Promise 14: play."""

import unittest

from tests.helper import (CELL, COUNT, LOCK, PILE, ROW, SET, alone, begin, call, end, held, last, play, said, show)


def called(kind, *steps):
    """A history of one thing: operations, a and b, each ended with an answer that none gives."""
    calls = [begin(kind)]
    for place, (operation, a, b) in enumerate(steps):
        calls += alone(place % 4, 0, operation, a, b, 2000)
    return calls


class Play(unittest.TestCase):
    def check(self, expected, row, *calls):
        self.assertEqual(last(*calls, play(*row)), expected)

    def test_an_empty_row(self):
        self.check([], [], begin(CELL))
        self.check([], [], *called(CELL, (1, 5, 0)))
        self.check([], [], begin(CELL), call(0, 0, 1, 5))

    def test_cell(self):
        calls = called(CELL, (1, 5, 0), (0, 0, 0), (2, 5, 6), (2, 0, 7))
        self.check([0, 5, 1, 0], [0, 1, 2, 3], *calls)
        self.check([1, 0, 7, 0], [3, 2, 1, 0], *calls)

    def test_count(self):
        calls = called(COUNT, (1, 5, 0), (0, 9, 9), (1, 99, 0))
        self.check([0, 5, 5], [0, 1, 2], *calls)
        self.check([0, 99, 104], [2, 0, 1], *calls)

    def test_row(self):
        calls = called(ROW, (0, 5, 0), (0, 6, 0), (1, 0, 0), (1, 0, 0), (1, 0, 0))
        self.check([0, 0, 5, 6, -1], [0, 1, 2, 3, 4], *calls)
        self.check([-1, 0, 6, -1, 0], [4, 1, 2, 3, 0], *calls)

    def test_pile(self):
        calls = called(PILE, (0, 5, 0), (0, 6, 0), (1, 0, 0), (1, 0, 0), (1, 0, 0))
        self.check([0, 0, 6, 5, -1], [0, 1, 2, 3, 4], *calls)
        self.check([-1, 0, 6, -1, 0], [4, 1, 2, 3, 0], *calls)

    def test_set(self):
        calls = called(SET, (0, 5, 0), (1, 5, 0), (1, 5, 0), (2, 5, 0), (2, 5, 0), (0, 6, 0))
        self.check([0, 1, 0, 1, 0, 0], [0, 1, 2, 3, 4, 5], *calls)
        self.check([0, 1, 1, 0, 1], [3, 1, 0, 5, 4], *calls)

    def test_lock(self):
        calls = called(LOCK, (0, 0, 0), (0, 0, 0), (1, 0, 0), (1, 0, 0))
        self.check([1, 0, 1, 0], [0, 1, 2, 3], *calls)
        self.check([0, 1, 1, 1], [3, 1, 2, 0], *calls)

    def test_minus_1_of_an_empty_row_or_pile_is_no_refusal(self):
        for kind in (ROW, PILE):
            self.check([-1], [0], begin(kind), call(0, 0, 1))
            self.check([-1], [0], begin(kind), *alone(0, 0, 1, 0, 0, 5))
            self.check([-1, -1], [1, 0], begin(kind), call(0, 0, 1), call(1, 0, 1))

    def test_several_things(self):
        calls = [begin(ROW, ROW, COUNT), *alone(0, 0, 0, 5, 0, 0), *alone(0, 1, 0, 6, 0, 0), call(1, 0, 1),
                 call(2, 1, 1), call(3, 2, 1, 7), end(3, 0), call(3, 2, 0)]
        self.check([0, 0, 5, 6, 0, 7], [0, 1, 2, 3, 4, 5], *calls)
        self.check([0, 0, 0, 6, 5, 7], [4, 1, 0, 3, 2, 5], *calls)
        self.check([0, 6, -1], [1, 3, 2], *calls)

    def test_neither_time_nor_what_was_answered_matters(self):
        calls = [begin(CELL), *alone(0, 0, 1, 5, 0, 9), *alone(0, 0, 0, 0, 0, 9), *alone(1, 0, 0, 0, 0, 9)]
        self.check([0, 0, 0], [2, 1, 0], *calls)
        self.check([0, 5], [0, 1], *calls)
        self.check([0], [2], *calls)

    def test_without_end(self):
        calls = [begin(CELL), call(0, 0, 1, 5), call(1, 0, 0), call(2, 0, 2, 5, 6)]
        self.check([0, 5, 1], [0, 1, 2], *calls)
        self.check([0, 0, 0], [1, 2, 0], *calls)

    def test_one_that_there_is_not(self):
        self.check([-1], [0], begin(COUNT))
        self.check([-1], [20], begin(COUNT))
        calls = called(COUNT, (1, 5, 0), (1, 5, 0))
        for number in (2, 3, 9, 20):
            self.check([-1], [number], *calls)
            self.check([-1], [0, 1, number], *calls)
            self.check([-1], [number, 0, 1], *calls)

    def test_one_twice(self):
        calls = called(COUNT, (1, 5, 0), (1, 5, 0))
        for row in ([0, 0], [1, 0, 1], [0, 1, 1], [1] * 12):
            self.check([-1], row, *calls)

    def test_nine_operations(self):
        calls = called(COUNT, *[(1, 99, 0)] * 9)
        self.check([99 * place for place in range(9)], [8, 7, 6, 5, 4, 3, 2, 1, 0], *calls)
        self.check([-1], list(range(10)), *calls)
        self.check([-1], list(range(9)) + [0, 1, 2], *calls)

    def test_of_this_history_alone(self):
        calls = called(COUNT, (1, 5, 0), (1, 6, 0)) + [play(1, 0), begin(PILE), play(0), call(0, 0, 1), play(0)]
        self.assertEqual(said(*calls, play(1, 0), play())[5:],
                         [[0, 6], [0], [-1], [0], [-1], [-1], []])

    def test_asking_changes_nothing(self):
        calls = [begin(ROW), call(0, 0, 0, 5), call(1, 0, 1), play(0, 1), play(0, 1), play(1), play(9), show(0)]
        self.assertEqual(said(*calls, show(1), end(1, 5), held(0, 1), play(1, 0))[3:],
                         [[0, 5], [0, 5], [-1], [-1], [0, 0, 0, 5, 0, 0, -1], [1, 0, 1, 0, 0, 1, -1], [1], [0],
                          [-1, 0]])
