"""What each operation of each kind answers: done by one client, one behind the other, only the told answer will do."""

import unittest

from tests.helper import CELL, COUNT, LINEAR, LOCK, ORDER, PILE, ROW, SERIAL, SET, alone, begin, last, said, thing


class Things(unittest.TestCase):
    def check(self, kind, steps):
        """Each step is operation, a, b and what it answers; every other answer of the same step must not do."""
        done = [begin(kind)]
        for operation, a, b, answer in steps:
            for wrong in sorted({-1, 0, 1, 2, a, b, answer + 1, 2000} - {answer}):
                with self.subTest(kind=kind, done=done, wrong=wrong):
                    calls = done + alone(0, 0, operation, a, b, wrong)
                    self.assertEqual(said(*calls, LINEAR, thing(0), ORDER, SERIAL)[-4:], [[0], [0], [-3], [0]])
            done = done + alone(0, 0, operation, a, b, answer)
            with self.subTest(kind=kind, done=done):
                self.assertEqual(said(*done, LINEAR, thing(0), SERIAL)[-3:], [[1], [1], [1]])
        self.assertEqual(last(*done, ORDER), [len(steps)] + list(range(len(steps))))

    def test_cell_read_and_write(self):
        self.check(CELL, [(0, 9, 9, 0), (1, 5, 9, 0), (0, 0, 0, 5), (1, 5, 0, 0), (1, 99, 0, 0), (0, 0, 0, 99),
                          (1, 0, 7, 0), (0, 0, 0, 0)])

    def test_cell_changed_if_it_holds(self):
        self.check(CELL, [(2, 3, 4, 0), (0, 0, 0, 0), (2, 0, 4, 1), (0, 0, 0, 4), (2, 4, 4, 1), (2, 4, 0, 1),
                          (2, 4, 7, 0), (2, 0, 6, 1), (0, 0, 0, 6)])

    def test_count(self):
        self.check(COUNT, [(0, 9, 9, 0), (1, 5, 9, 0), (0, 0, 0, 5), (1, 99, 0, 5), (1, 0, 3, 104), (1, 1, 1, 104),
                           (0, 1, 1, 105), (0, 0, 0, 105)])

    def test_row(self):
        self.check(ROW, [(1, 9, 9, -1), (0, 5, 9, 0), (0, 6, 0, 0), (0, 5, 0, 0), (1, 7, 7, 5), (1, 0, 0, 6),
                         (1, 0, 0, 5), (1, 0, 0, -1)])

    def test_row_that_was_emptied(self):
        self.check(ROW, [(0, 0, 0, 0), (1, 0, 0, 0), (1, 0, 0, -1), (0, 3, 0, 0), (0, 4, 0, 0), (1, 0, 0, 3),
                         (0, 8, 0, 0), (1, 0, 0, 4), (1, 0, 0, 8)])

    def test_pile(self):
        self.check(PILE, [(1, 9, 9, -1), (0, 5, 9, 0), (0, 6, 0, 0), (0, 7, 0, 0), (1, 3, 3, 7), (0, 8, 0, 0),
                          (1, 0, 0, 8), (1, 0, 0, 6), (1, 0, 0, 5)])

    def test_pile_that_was_emptied(self):
        self.check(PILE, [(0, 0, 0, 0), (1, 0, 0, 0), (1, 0, 0, -1), (1, 0, 0, -1), (0, 4, 0, 0), (1, 0, 0, 4)])

    def test_set(self):
        self.check(SET, [(0, 0, 9, 0), (1, 5, 9, 1), (1, 5, 0, 0), (0, 5, 0, 1), (0, 9, 5, 0), (2, 9, 0, 0),
                         (2, 5, 0, 1), (2, 5, 0, 0), (0, 5, 0, 0)])

    def test_set_of_several(self):
        self.check(SET, [(1, 7, 0, 1), (1, 3, 0, 1), (1, 0, 0, 1), (2, 3, 0, 1), (0, 7, 0, 1), (0, 3, 0, 0),
                         (0, 0, 0, 1), (1, 3, 0, 1), (2, 7, 0, 1)])

    def test_lock(self):
        self.check(LOCK, [(1, 9, 9, 0), (0, 9, 9, 1), (0, 0, 0, 0), (0, 0, 0, 0), (1, 0, 0, 1), (1, 0, 0, 0),
                          (0, 0, 0, 1), (1, 0, 0, 1), (0, 0, 0, 1)])

    def test_things_are_apart(self):
        calls = [begin(CELL, CELL, COUNT)]
        calls += alone(0, 0, 1, 5, 0, 0) + alone(1, 1, 1, 6, 0, 0) + alone(2, 2, 1, 7, 0, 0)
        good = alone(3, 0, 0, 0, 0, 5) + alone(0, 1, 0, 0, 0, 6) + alone(1, 2, 0, 0, 0, 7)
        self.assertEqual(last(*calls, *good, LINEAR), [1])
        self.assertEqual(last(*calls, *good, ORDER), [6, 0, 1, 2, 3, 4, 5])
        self.assertEqual(last(*calls, *good, SERIAL), [1])
        bad = alone(3, 0, 0, 0, 0, 6) + alone(0, 1, 0, 0, 0, 6) + alone(1, 2, 0, 0, 0, 7)
        self.assertEqual(said(*calls, *bad, LINEAR, thing(0), thing(1), thing(2), ORDER, SERIAL)[-6:],
                         [[0], [0], [1], [1], [-3], [0]])
