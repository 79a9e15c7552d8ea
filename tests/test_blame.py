"""Promise 12: blame."""

import unittest

from tests.helper import (BLAME, CELL, COUNT, LINEAR, LOCK, PILE, ROW, SET, alone, begin, call, end, said, show)


class Blame(unittest.TestCase):
    def check(self, linear, blamed, *calls):
        self.assertEqual(said(*calls, LINEAR, BLAME)[-2:], [[linear], [len(blamed)] + blamed])

    def test_without_operations(self):
        self.check(1, [], begin(CELL))

    def test_one(self):
        self.check(0, [0], begin(CELL), *alone(0, 0, 0, 0, 0, 7))
        self.check(0, [1], begin(CELL), *alone(0, 0, 1, 5, 0, 0), *alone(1, 0, 0, 0, 0, 7))
        self.check(0, [0], begin(CELL), *alone(0, 0, 1, 5, 0, 1), *alone(1, 0, 0, 0, 0, 0))

    def test_several(self):
        self.check(0, [0, 1], begin(CELL), *alone(0, 0, 1, 5, 0, 0), *alone(1, 0, 0, 0, 0, 0))
        self.check(0, [0, 1], begin(LOCK), *alone(0, 0, 0, 0, 0, 1), *alone(1, 0, 0, 0, 0, 1))
        self.check(0, [0, 2], begin(CELL), *alone(0, 0, 1, 5, 0, 0), call(3, 0, 1, 6), *alone(1, 0, 0, 0, 0, 0))

    def test_none(self):
        self.check(0, [], begin(CELL), *alone(0, 0, 0, 0, 0, 7), *alone(1, 0, 0, 0, 0, 8))
        self.check(0, [], begin(CELL, CELL), *alone(0, 0, 0, 0, 0, 7), *alone(1, 1, 0, 0, 0, 7))
        self.check(0, [], begin(LOCK), *alone(0, 0, 0, 0, 0, 1), *alone(1, 0, 0, 0, 0, 1), *alone(2, 0, 0, 0, 0, 1))

    def test_of_each_kind(self):
        self.check(0, [0, 1], begin(COUNT), *alone(0, 0, 1, 5, 0, 0), *alone(1, 0, 0, 0, 0, 0))
        self.check(0, [0, 2], begin(ROW), *alone(0, 0, 0, 1, 0, 0), *alone(1, 0, 0, 2, 0, 0), *alone(2, 0, 1, 0, 0, 2))
        self.check(0, [1, 2], begin(PILE), *alone(0, 0, 0, 1, 0, 0), *alone(1, 0, 0, 2, 0, 0), *alone(2, 0, 1, 0, 0, 1))
        self.check(0, [0, 1], begin(SET), *alone(0, 0, 1, 4, 0, 1), *alone(1, 0, 0, 4, 0, 0))
        self.check(0, [1], begin(LOCK), *alone(0, 0, 0, 0, 0, 1), *alone(1, 0, 1, 0, 0, 0), *alone(2, 0, 0, 0, 0, 0))

    def test_of_a_linear_history(self):
        # Without any one of these linear would still be 1.
        self.check(1, [0, 1, 2], begin(CELL), *alone(0, 0, 0, 0, 0, 0), *alone(1, 0, 0, 0, 0, 0), call(2, 0, 1, 5))
        # Without the write what was read can not be.
        self.check(1, [1], begin(CELL), *alone(0, 0, 1, 5, 0, 0), *alone(1, 0, 0, 0, 0, 5))
        self.check(1, [1], begin(CELL), call(0, 0, 1, 5), *alone(1, 0, 0, 0, 0, 5))
        # Each of these answers by what the one ahead of it left.
        self.check(1, [2], begin(COUNT), *alone(0, 0, 1, 1, 0, 0), *alone(1, 0, 1, 1, 0, 1), *alone(2, 0, 0, 0, 0, 2))
        self.check(1, [1, 3], begin(ROW), *alone(0, 0, 0, 1, 0, 0), *alone(1, 0, 1, 0, 0, 1), *alone(2, 0, 0, 1, 0, 0),
                   *alone(3, 0, 1, 0, 0, 1))

    def test_without_end(self):
        self.check(0, [1], begin(CELL), call(0, 0, 1, 5), *alone(1, 0, 0, 0, 0, 7))
        # It is seen, and then it is not; left out itself, the one that saw it is wrong still.
        self.check(0, [1, 2], begin(CELL), call(0, 0, 1, 5), *alone(1, 0, 0, 0, 0, 5), *alone(2, 0, 0, 0, 0, 0))

    def test_one_of_a_client_that_goes_on(self):
        calls = [begin(CELL), *alone(0, 0, 1, 1, 0, 0), *alone(0, 0, 1, 2, 0, 0), *alone(0, 0, 0, 0, 0, 1)]
        self.check(0, [1, 2], *calls)
        self.check(0, [1], *calls, *alone(0, 0, 0, 0, 0, 1))

    def test_several_things(self):
        calls = [begin(CELL, ROW, LOCK), call(0, 0, 1, 5), call(1, 1, 1), call(2, 2, 0), end(0, 0), end(2, 1)]
        calls += alone(3, 0, 0, 0, 0, 5)
        self.check(0, [1], *calls, end(1, 8))
        self.check(1, [1, 2, 3], *calls, end(1, -1))

    def test_nine_operations(self):
        calls = [begin(PILE)]
        for place in range(8):
            calls += alone(place % 4, 0, 0, place, 0, 0)
        self.check(1, list(range(7)) + [8], *calls, *alone(0, 0, 1, 0, 0, 7))
        self.check(0, [7, 8], *calls, *alone(0, 0, 1, 0, 0, 6))
        self.check(0, [8], *calls, *alone(0, 0, 1, 0, 0, 5))

    def test_asking_changes_nothing(self):
        calls = [begin(CELL), *alone(0, 0, 1, 5, 0, 0), *alone(1, 0, 0, 0, 0, 0), BLAME, BLAME, LINEAR]
        self.assertEqual(said(*calls, show(0), show(1), call(0, 0, 0), end(0, 5), BLAME)[5:],
                         [[2, 0, 1], [2, 0, 1], [0], [0, 0, 1, 5, 0, 0, 1, 0], [1, 0, 0, 0, 0, 2, 3, 0], [2], [2],
                          [1, 1]])
