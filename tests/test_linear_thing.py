"""Promises 4 and 5: linear and thing."""

import unittest

from tests.helper import (CELL, COUNT, LINEAR, LOCK, PILE, ROW, SET, alone, begin, call, end, last, said, thing)


class Linear(unittest.TestCase):
    def check(self, expected, *calls):
        """linear, and thing of the one thing there is."""
        self.assertEqual(said(*calls, LINEAR, thing(0))[-2:], [[expected], [expected]])

    def test_without_operations(self):
        self.check(1, begin(CELL))
        self.assertEqual(said(begin(CELL, ROW, LOCK), LINEAR, thing(0), thing(1), thing(2))[1:], [[1]] * 4)

    def test_a_wrong_answer(self):
        self.check(0, begin(CELL), call(0, 0, 1, 5), end(0, 1))
        self.check(0, begin(ROW), call(0, 0, 1), end(0, 0))
        self.check(0, begin(LOCK), call(0, 0, 0), end(0, -1))

    def test_at_the_same_time_either_may_come_first(self):
        calls = [begin(CELL), call(0, 0, 1, 5), call(1, 0, 0)]
        self.check(1, *calls, end(0, 0), end(1, 0))
        self.check(1, *calls, end(0, 0), end(1, 5))
        self.check(1, *calls, end(1, 0), end(0, 0))
        self.check(1, *calls, end(1, 5), end(0, 0))
        self.check(0, *calls, end(1, 4), end(0, 0))

    def test_end_just_before_another_begins(self):
        calls = [begin(CELL), call(0, 0, 1, 5), end(0, 0), call(1, 0, 0)]
        self.check(1, *calls, end(1, 5))
        self.check(0, *calls, end(1, 0))

    def test_end_just_behind_anothers_beginning(self):
        calls = [begin(CELL), call(0, 0, 1, 5), call(1, 0, 0), end(0, 0)]
        self.check(1, *calls, end(1, 5))
        self.check(1, *calls, end(1, 0))

    def test_what_was_read_stays_read(self):
        calls = [begin(CELL), call(0, 0, 1, 5)] + alone(1, 0, 0, 0, 0, 5)
        self.check(0, *calls, *alone(2, 0, 0, 0, 0, 0))
        self.check(1, *calls, *alone(2, 0, 0, 0, 0, 5))

    def test_one_clients_own_order(self):
        calls = [begin(COUNT)] + alone(0, 0, 1, 1, 0, 1)
        self.check(0, *calls, *alone(0, 0, 1, 1, 0, 0))
        self.check(1, begin(COUNT), call(0, 0, 1, 1), call(1, 0, 1, 1), end(0, 1), end(1, 0))

    def test_without_end_it_may_stand_or_not(self):
        calls = [begin(CELL), call(0, 0, 1, 5)]
        self.check(1, *calls)
        self.check(1, *calls, *alone(1, 0, 0, 0, 0, 0))
        self.check(1, *calls, *alone(1, 0, 0, 0, 0, 5))
        self.check(1, *calls, *alone(1, 0, 0, 0, 0, 0), *alone(1, 0, 0, 0, 0, 5))
        self.check(0, *calls, *alone(1, 0, 0, 0, 0, 5), *alone(1, 0, 0, 0, 0, 0))
        self.check(0, *calls, *alone(1, 0, 0, 0, 0, 6))

    def test_without_end_it_stands_once_at_the_most(self):
        calls = [begin(ROW), call(0, 0, 0, 5)] + alone(1, 0, 1, 0, 0, 5)
        self.check(1, *calls)
        self.check(0, *calls, *alone(1, 0, 1, 0, 0, 5))
        self.check(1, *calls, *alone(1, 0, 1, 0, 0, -1))

    def test_without_end_it_does_not_stand_before_its_beginning(self):
        self.check(0, begin(CELL), *alone(1, 0, 0, 0, 0, 5), call(0, 0, 1, 5))

    def test_several_without_end(self):
        calls = [begin(PILE), call(0, 0, 0, 5), call(1, 0, 0, 6), call(2, 0, 1)]
        self.check(1, *calls, *alone(3, 0, 1, 0, 0, 5), *alone(3, 0, 1, 0, 0, 6))
        self.check(1, *calls, *alone(3, 0, 1, 0, 0, 6), *alone(3, 0, 1, 0, 0, -1))
        self.check(0, *calls, *alone(3, 0, 1, 0, 0, 6), *alone(3, 0, 1, 0, 0, 6))

    def test_row_of_two_clients(self):
        calls = [begin(ROW), call(0, 0, 0, 1), call(1, 0, 0, 2), end(0, 0), end(1, 0)]
        self.check(1, *calls, *alone(2, 0, 1, 0, 0, 1), *alone(3, 0, 1, 0, 0, 2))
        self.check(1, *calls, *alone(2, 0, 1, 0, 0, 2), *alone(3, 0, 1, 0, 0, 1))
        calls = [begin(ROW), *alone(0, 0, 0, 1, 0, 0), *alone(1, 0, 0, 2, 0, 0)]
        self.check(1, *calls, *alone(2, 0, 1, 0, 0, 1))
        self.check(0, *calls, *alone(2, 0, 1, 0, 0, 2))

    def test_lock_is_taken_by_one(self):
        calls = [begin(LOCK), call(0, 0, 0), call(1, 0, 0), call(2, 0, 0), call(3, 0, 0)]
        self.check(1, *calls, end(0, 0), end(1, 0), end(2, 1), end(3, 0))
        self.check(0, *calls, end(0, 1), end(1, 0), end(2, 1), end(3, 0))
        self.check(0, *calls, end(0, 0), end(1, 0), end(2, 0), end(3, 0))

    def test_set_of_four_clients(self):
        calls = [begin(SET), call(0, 0, 1, 5), call(1, 0, 1, 5), call(2, 0, 2, 5), call(3, 0, 0, 5)]
        self.check(1, *calls, end(0, 1), end(1, 1), end(2, 1), end(3, 0))
        self.check(0, *calls, end(0, 0), end(1, 0), end(2, 1), end(3, 0))
        self.check(0, *calls, end(0, 1), end(1, 1), end(2, 0), end(3, 0))

    def test_nine_operations(self):
        calls = [begin(COUNT), call(0, 0, 1, 1), call(1, 0, 1, 2), call(2, 0, 1, 4), call(3, 0, 1, 8)]
        calls += [end(3, 0), call(3, 0, 1, 16), end(3, 14), end(1, 8), call(1, 0, 1, 32), end(2, 10), end(0, 62)]
        calls += [call(0, 0, 1, 64), end(1, 30), call(2, 0, 0)]
        self.check(1, *calls, end(2, 63), end(0, 63))
        self.check(1, *calls, end(2, 127), end(0, 63))
        self.check(0, *calls, end(2, 63), end(0, 62))


class SeveralThings(unittest.TestCase):
    def test_each_thing_by_itself(self):
        calls = [begin(CELL, COUNT, ROW), call(0, 0, 1, 5), call(1, 1, 1, 3), call(2, 2, 0, 4)]
        calls += [end(0, 0), end(1, 1), end(2, 0)]
        self.assertEqual(said(*calls, LINEAR, thing(0), thing(1), thing(2))[-4:], [[0], [1], [0], [1]])

    def test_any_thing_alone_is_enough_for_0(self):
        for wrong in range(3):
            calls = [begin(CELL, CELL, CELL)]
            for number in range(3):
                calls += alone(0, number, 0, 0, 0, 8 if number == wrong else 0)
            self.assertEqual(last(*calls, LINEAR), [0])
            told = said(*calls, thing(0), thing(1), thing(2))[-3:]
            self.assertEqual(told, [[0 if number == wrong else 1] for number in range(3)])

    def test_no_such_thing(self):
        for many in (1, 2, 3):
            for number in range(10):
                expected = [1] if number < many else [-1]
                self.assertEqual(last(begin(*[ROW] * many), thing(number)), expected)

    def test_asking_changes_nothing(self):
        calls = [begin(CELL), call(0, 0, 1, 5), LINEAR, thing(0), thing(3), call(1, 0, 0), LINEAR, thing(0), end(1, 5)]
        self.assertEqual(last(*calls, LINEAR), [1])
        self.assertEqual(said(*calls, LINEAR, LINEAR, thing(0), thing(0))[-4:], [[1]] * 4)
