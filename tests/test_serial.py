"""Promise 8: serial."""

import unittest

from tests.helper import CELL, COUNT, LINEAR, LOCK, PILE, ROW, SERIAL, SET, alone, begin, call, end, said, thing


class Serial(unittest.TestCase):
    def check(self, linear, serial, *calls):
        self.assertEqual(said(*calls, LINEAR, SERIAL)[-2:], [[linear], [serial]])

    def test_without_operations(self):
        self.check(1, 1, begin(CELL))
        self.check(1, 1, begin(CELL), call(0, 0, 1, 5))

    def test_both(self):
        self.check(1, 1, begin(CELL), *alone(0, 0, 1, 5, 0, 0), *alone(1, 0, 0, 0, 0, 5))

    def test_serial_alone(self):
        self.check(0, 1, begin(CELL), *alone(0, 0, 1, 5, 0, 0), *alone(1, 0, 0, 0, 0, 0))
        self.check(0, 1, begin(CELL), *alone(1, 0, 0, 0, 0, 5), *alone(0, 0, 1, 5, 0, 0))
        self.check(0, 1, begin(ROW), *alone(0, 0, 0, 1, 0, 0), *alone(1, 0, 0, 2, 0, 0), *alone(2, 0, 1, 0, 0, 2))
        self.check(0, 1, begin(PILE), *alone(0, 0, 1, 0, 0, 3), *alone(1, 0, 0, 3, 0, 0))
        self.check(0, 1, begin(LOCK), *alone(0, 0, 0, 0, 0, 0), *alone(1, 0, 0, 0, 0, 1))
        self.check(0, 1, begin(SET), *alone(0, 0, 1, 4, 0, 0), *alone(1, 0, 1, 4, 0, 1))
        self.check(0, 1, begin(COUNT), *alone(0, 0, 1, 4, 0, 5), *alone(1, 0, 1, 5, 0, 0))

    def test_neither(self):
        self.check(0, 0, begin(CELL), *alone(0, 0, 0, 0, 0, 7))
        self.check(0, 0, begin(LOCK), call(0, 0, 0), call(1, 0, 0), end(0, 1), end(1, 1))

    def test_one_clients_own_order(self):
        self.check(0, 0, begin(CELL), *alone(0, 0, 1, 5, 0, 0), *alone(0, 0, 0, 0, 0, 0))
        self.check(0, 0, begin(CELL), *alone(0, 0, 0, 0, 0, 5), *alone(0, 0, 1, 5, 0, 0))
        self.check(0, 1, begin(CELL), *alone(0, 0, 0, 0, 0, 5), *alone(3, 0, 1, 5, 0, 0))

    def test_two_read_in_different_orders(self):
        writes = [begin(CELL), call(0, 0, 1, 1), call(1, 0, 1, 2), end(0, 0), end(1, 0)]
        one = alone(2, 0, 0, 0, 0, 1) + alone(2, 0, 0, 0, 0, 2)
        self.check(0, 1, *writes, *one, *alone(3, 0, 0, 0, 0, 1), *alone(3, 0, 0, 0, 0, 2))
        self.check(0, 0, *writes, *one, *alone(3, 0, 0, 0, 0, 2), *alone(3, 0, 0, 0, 0, 1))

    def test_all_things_in_one_row(self):
        # Of each thing by itself a row would do in clients' order, but not one for both.
        calls = [begin(CELL, CELL), call(0, 0, 1, 1), call(1, 1, 1, 1), end(0, 0), end(1, 0)]
        calls += [call(0, 1, 0), call(1, 0, 0)]
        self.check(0, 0, *calls, end(0, 0), end(1, 0))
        self.check(0, 1, *calls, end(0, 0), end(1, 1))
        self.check(0, 1, *calls, end(0, 1), end(1, 0))
        self.check(1, 1, *calls, end(0, 1), end(1, 1))

    def test_a_clients_order_over_several_things(self):
        calls = [begin(CELL, COUNT, ROW), *alone(0, 0, 1, 5, 0, 0), *alone(0, 1, 1, 3, 0, 0)]
        self.check(0, 0, *calls, *alone(1, 1, 0, 0, 0, 3), *alone(1, 0, 0, 0, 0, 0))
        self.check(0, 1, *calls, *alone(1, 1, 0, 0, 0, 0), *alone(1, 0, 0, 0, 0, 5))
        self.check(0, 1, *calls, *alone(1, 1, 0, 0, 0, 3), *alone(2, 0, 0, 0, 0, 0))

    def test_without_end_it_may_stand_or_not(self):
        self.check(0, 1, begin(CELL), *alone(1, 0, 0, 0, 0, 5), call(0, 0, 1, 5))
        self.check(1, 1, begin(CELL), call(0, 0, 1, 5), *alone(1, 0, 0, 0, 0, 0))
        self.check(1, 1, begin(CELL), call(0, 0, 1, 5), *alone(1, 0, 0, 0, 0, 5))
        self.check(0, 0, begin(ROW), call(0, 0, 0, 5), *alone(1, 0, 1, 0, 0, 5), *alone(2, 0, 1, 0, 0, 5))
        self.check(0, 0, begin(CELL), *alone(1, 0, 0, 0, 0, 5), call(1, 0, 1, 5))

    def test_thing_is_told_in_times_order(self):
        calls = [begin(CELL, CELL), *alone(0, 0, 1, 5, 0, 0), *alone(1, 0, 0, 0, 0, 0)]
        self.assertEqual(said(*calls, thing(0), thing(1), SERIAL)[-3:], [[0], [1], [1]])

    def test_nine_operations(self):
        calls = [begin(COUNT)]
        for place in range(9):
            calls += alone(place % 4, 0, 1, 1, 0, (place % 4) * 2 + place // 4 + (1 if place % 4 else 0))
        # Client 0 did its three first, then each other one its two.
        self.check(0, 1, *calls)
        self.check(0, 0, *calls[:-1], end(0, 9))

    def test_asking_changes_nothing(self):
        calls = [begin(CELL), *alone(1, 0, 0, 0, 0, 5)]
        self.assertEqual(said(*calls, SERIAL, SERIAL, call(0, 0, 1, 5), SERIAL, end(0, 0), SERIAL)[-6:],
                         [[0], [0], [1], [1], [1], [1]])
