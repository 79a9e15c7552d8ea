"""Promise 15: show."""

import unittest

from tests.helper import (CELL, COUNT, LOCK, PILE, ROW, SET, alone, begin, call, end, last, said, show)


class Show(unittest.TestCase):
    def test_one_that_has_not_ended(self):
        self.assertEqual(last(begin(CELL), call(3, 0, 2, 98, 99), show(0)), [3, 0, 2, 98, 99, 0, -1])

    def test_one_that_has_ended(self):
        self.assertEqual(last(begin(CELL), call(3, 0, 2, 98, 99), end(3, 1), show(0)), [3, 0, 2, 98, 99, 0, 1, 1])

    def test_every_answer_as_it_was(self):
        for answer in (-1, 0, 1, 7, 2000):
            self.assertEqual(last(begin(PILE), call(1, 0, 1, 4, 5), end(1, answer), show(0)),
                             [1, 0, 1, 4, 5, 0, 1, answer])

    def test_what_is_handed_over_and_not_used(self):
        for kind in (CELL, COUNT, ROW, PILE, SET, LOCK):
            for operation in (0, 1):
                self.assertEqual(last(begin(kind), call(2, 0, operation, 11, 12), show(0)),
                                 [2, 0, operation, 11, 12, 0, -1])

    def test_several(self):
        calls = [begin(CELL, ROW, SET), call(0, 1, 1, 1, 2), call(1, 2, 2, 3, 4), end(0, -1), call(0, 0, 0, 5, 6),
                 end(1, 0), call(3, 2, 1, 7, 8), end(3, 9)]
        self.assertEqual(said(*calls, show(0), show(1), show(2), show(3))[-4:],
                         [[0, 1, 1, 1, 2, 0, 2, -1], [1, 2, 2, 3, 4, 1, 4, 0], [0, 0, 0, 5, 6, 3, -1],
                          [3, 2, 1, 7, 8, 5, 6, 9]])

    def test_refused_calls_are_not_shown_and_are_no_events(self):
        calls = [begin(CELL), end(0, 0), call(4, 0, 0), call(0, 0, 1, 5), call(0, 0, 1, 6), call(1, 1, 0),
                 call(1, 0, 0), end(2, 0), end(0, 0), end(0, 7), show(9)]
        self.assertEqual(said(*calls, show(0), show(1), show(2))[-3:],
                         [[0, 0, 1, 5, 0, 0, 2, 0], [1, 0, 0, 0, 0, 1, -1], [-1]])

    def test_no_such_operation(self):
        for number in range(21):
            self.assertEqual(last(begin(CELL), show(number)), [-1])
            told = last(begin(CELL), call(0, 0, 0), show(number))
            self.assertEqual(told, [0, 0, 0, 0, 0, 0, -1] if number == 0 else [-1])

    def test_nine_operations(self):
        calls = [begin(COUNT)]
        for place in range(9):
            calls += alone(place % 4, 0, 1, place, 0, place + 100)
        for number in range(21):
            expected = [number % 4, 0, 1, number, 0, 2 * number, 2 * number + 1, number + 100] if number < 9 else [-1]
            self.assertEqual(last(*calls, show(number)), expected)

    def test_of_this_history_alone(self):
        calls = [begin(CELL), *alone(0, 0, 1, 5, 0, 0), begin(ROW), show(0), call(2, 0, 0, 6), show(0), begin(9)]
        self.assertEqual(said(*calls, show(0))[3:],
                         [[0], [-1], [0], [2, 0, 0, 6, 0, 0, -1], [-1], [2, 0, 0, 6, 0, 0, -1]])

    def test_asking_changes_nothing(self):
        calls = [begin(CELL), call(0, 0, 0), show(0), show(1), show(0), end(0, 3), show(0), show(0), call(1, 0, 0)]
        self.assertEqual(said(*calls, show(1))[2:],
                         [[0, 0, 0, 0, 0, 0, -1], [-1], [0, 0, 0, 0, 0, 0, -1], [0], [0, 0, 0, 0, 0, 0, 1, 3],
                          [0, 0, 0, 0, 0, 0, 1, 3], [1], [1, 0, 0, 0, 0, 2, -1]])
