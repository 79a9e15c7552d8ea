"""Promise 6: order."""

import unittest

from tests.helper import CELL, COUNT, LOCK, ORDER, PILE, ROW, SET, alone, begin, call, end, last, said


class Order(unittest.TestCase):
    def check(self, row, *calls):
        self.assertEqual(last(*calls, ORDER), [len(row)] + row)

    def test_without_operations(self):
        self.check([], begin(CELL))

    def test_none_has_ended(self):
        self.check([], begin(CELL), call(0, 0, 1, 5), call(1, 0, 0))

    def test_a_rows_beginning_goes_ahead_of_it(self):
        self.check([0], begin(CELL), *alone(0, 0, 0, 0, 0, 0), call(1, 0, 1, 5), call(2, 0, 0))
        self.check([0, 1], begin(SET), call(0, 0, 1, 5), call(1, 0, 0, 5), end(1, 1))

    def test_longer_but_smaller_goes_ahead(self):
        # Operation 1 alone would do, but a row that begins with 0 is ahead of it.
        self.check([0, 1], begin(CELL), call(0, 0, 0), call(1, 0, 0), end(1, 0))
        self.check([0, 1, 2], begin(LOCK), call(0, 0, 1), call(1, 0, 1), call(2, 0, 1), end(2, 0))

    def test_what_must_stand_stands_though_it_never_ends(self):
        self.check([1, 0], begin(CELL), call(1, 0, 0), call(0, 0, 1, 5), end(1, 5))
        self.check([1, 2, 0], begin(CELL), call(0, 0, 0), call(1, 0, 0), call(2, 0, 1, 7), end(0, 7))

    def test_first_of_several(self):
        calls = [begin(CELL), call(0, 0, 0), call(1, 0, 0), call(2, 0, 0), end(2, 0), end(1, 0), end(0, 0)]
        self.check([0, 1, 2], *calls)
        calls = [begin(ROW), call(3, 0, 0, 1), call(2, 0, 0, 2), call(1, 0, 1), call(0, 0, 1)]
        calls += [end(0, 2), end(1, 1), end(2, 0), end(3, 0)]
        self.check([0, 1, 2, 3], *calls)

    def test_turned_about_by_answers(self):
        calls = [begin(COUNT), call(0, 0, 1, 1), call(1, 0, 1, 2), call(2, 0, 1, 4)]
        self.check([2, 1, 0], *calls, end(0, 6), end(1, 4), end(2, 0))
        self.check([1, 2, 0], *calls, end(0, 6), end(1, 0), end(2, 2))
        self.check([0, 1, 2], *calls, end(0, 0), end(1, 1), end(2, 3))

    def test_time_goes_ahead_of_number(self):
        # 0 begins first, but 1 ends with what 2 wrote, and 0 with what was there at first.
        calls = [begin(CELL), call(0, 0, 0), call(1, 0, 0), call(2, 0, 1, 5), end(2, 0), end(1, 5), end(0, 0)]
        self.check([0, 2, 1], *calls)
        calls = [begin(CELL), call(0, 0, 0), call(1, 0, 1, 5), end(1, 0), call(1, 0, 0), end(1, 5), end(0, 5)]
        self.check([1, 0, 2], *calls)
        calls = [begin(CELL), call(0, 0, 0), call(1, 0, 1, 5), end(1, 0), call(1, 0, 1, 6), end(1, 0), end(0, 6)]
        self.check([1, 2, 0], *calls)

    def test_all_things_in_one_row(self):
        calls = [begin(PILE, CELL, LOCK), call(0, 0, 1), call(1, 1, 0), call(2, 2, 1), call(3, 0, 0, 8)]
        calls += [end(0, 8), end(3, 0), call(3, 2, 0), end(2, 1), call(2, 1, 1, 9), end(3, 1), end(2, 0), end(1, 9)]
        # 4 takes the lock that 2 frees, 5 writes what 1 reads, 3 puts what 0 takes; 2 has ended when 5 begins.
        self.check([3, 0, 4, 2, 5, 1], *calls)

    def test_none(self):
        self.assertEqual(last(begin(CELL), *alone(0, 0, 0, 0, 0, 1), ORDER), [-3])
        self.assertEqual(last(begin(CELL), *alone(0, 0, 1, 5, 0, 0), *alone(1, 0, 0, 0, 0, 0), ORDER), [-3])
        self.assertEqual(last(begin(CELL, CELL), *alone(0, 0, 0, 0, 0, 0), *alone(0, 1, 0, 0, 0, 1), ORDER), [-3])

    def test_nine_operations(self):
        calls = [begin(ROW)]
        for place in range(9):
            calls += alone(place % 4, 0, 0, place, 0, 0)
        self.check(list(range(9)), *calls)

    def test_asking_changes_nothing(self):
        calls = [begin(CELL), call(0, 0, 0), ORDER, call(1, 0, 0), ORDER, end(1, 0), ORDER, ORDER]
        self.assertEqual(said(*calls), [[0], [0], [0], [1], [0], [1], [2, 0, 1], [2, 0, 1]])
