"""Promise 13: held."""

import unittest

from tests.helper import (CELL, COUNT, LOCK, ORDER, PILE, ROW, SET, alone, begin, call, end, held, last, said, show)


class Held(unittest.TestCase):
    def check(self, expected, row, *calls):
        self.assertEqual(last(*calls, held(*row)), expected)

    def test_an_empty_row(self):
        self.check([0], [], begin(CELL))
        self.check([0], [], begin(CELL, LOCK), call(0, 0, 1, 5), call(1, 1, 0))
        self.check([-1], [], begin(CELL), *alone(0, 0, 0, 0, 0, 0))

    def test_rows_that_explain(self):
        calls = [begin(CELL), call(0, 0, 1, 5), call(1, 0, 0), call(2, 0, 0), end(0, 0), end(1, 0), end(2, 5)]
        self.check([0], [1, 0, 2], *calls)
        for row in ([0, 1, 2], [2, 0, 1], [0, 2, 1], [1, 2, 0], [2, 1, 0]):
            self.assertEqual(last(*calls, held(*row))[0], -3)

    def test_every_row_that_explains(self):
        calls = [begin(ROW, SET), call(0, 0, 0, 5), call(1, 1, 0, 5), end(1, 0), end(0, 0), call(2, 0, 1), end(2, 5)]
        for row in ([0, 1, 2], [1, 0, 2]):
            self.check([0], row, *calls)

    def test_of_each_kind(self):
        self.check([0], [0, 1, 2], begin(CELL), *alone(0, 0, 1, 5, 0, 0), *alone(1, 0, 2, 5, 6, 1),
                   *alone(2, 0, 0, 0, 0, 6))
        self.check([0], [0, 1], begin(COUNT), *alone(0, 0, 1, 5, 0, 0), *alone(1, 0, 0, 0, 0, 5))
        self.check([0], [0, 1, 2], begin(ROW), *alone(0, 0, 0, 5, 0, 0), *alone(1, 0, 1, 0, 0, 5),
                   *alone(2, 0, 1, 0, 0, -1))
        self.check([0], [0, 1, 2], begin(PILE), *alone(0, 0, 0, 5, 0, 0), *alone(1, 0, 1, 0, 0, 5),
                   *alone(2, 0, 1, 0, 0, -1))
        self.check([0], [0, 1, 2], begin(SET), *alone(0, 0, 1, 5, 0, 1), *alone(1, 0, 0, 5, 0, 1),
                   *alone(2, 0, 2, 5, 0, 1))
        self.check([0], [0, 1, 2], begin(LOCK), *alone(0, 0, 0, 0, 0, 1), *alone(1, 0, 0, 0, 0, 0),
                   *alone(2, 0, 1, 0, 0, 1))

    def test_without_end_in_it_and_left_out(self):
        calls = [begin(CELL), call(0, 0, 1, 5), *alone(1, 0, 0, 0, 0, 0)]
        self.check([0], [1], *calls)
        self.check([0], [1, 0], *calls)
        self.check([-3, 1], [0, 1], *calls)
        calls = [begin(CELL), call(0, 0, 1, 5), *alone(1, 0, 0, 0, 0, 5)]
        self.check([-3, 0], [1], *calls)
        self.check([-3, 0], [1, 0], *calls)
        self.check([0], [0, 1], *calls)

    def test_without_end_alone(self):
        self.check([0], [0], begin(ROW), call(0, 0, 1))
        self.check([0], [1, 0], begin(ROW), call(0, 0, 1), call(1, 0, 0, 5))

    def test_one_that_there_is_not(self):
        self.check([-1], [0], begin(CELL))
        self.check([-1], [20], begin(CELL))
        calls = [begin(CELL), *alone(0, 0, 0, 0, 0, 0), call(1, 0, 0)]
        self.check([0], [0, 1], *calls)
        for number in (2, 9, 20):
            self.check([-1], [0, number], *calls)
            self.check([-1], [number, 0], *calls)

    def test_one_twice(self):
        calls = [begin(CELL), *alone(0, 0, 0, 0, 0, 0), call(1, 0, 0)]
        for row in ([0, 0], [0, 1, 1], [1, 0, 1], [0, 1, 0], [0] * 12):
            self.check([-1], row, *calls)

    def test_not_all_that_have_ended(self):
        calls = [begin(CELL), *alone(0, 0, 0, 0, 0, 0), call(1, 0, 0), *alone(2, 0, 0, 0, 0, 0)]
        for row in ([], [0], [1], [2], [0, 1], [1, 2]):
            self.check([-1], row, *calls)
        self.check([0], [0, 2], *calls)

    def test_an_operation_left_out_for_another(self):
        self.check([-1], [1, 0, 3], begin(CELL), call(0, 0, 0), call(1, 0, 0), call(2, 0, 0), call(3, 0, 0), end(2, 0))

    def test_minus_1_ahead_of_all_else(self):
        # The row is in wrong order and its answers are wrong, at places ahead of the last one.
        calls = [begin(CELL), *alone(0, 0, 0, 0, 0, 7), *alone(1, 0, 0, 0, 0, 7), *alone(2, 0, 0, 0, 0, 0)]
        self.check([-2, 0], [1, 0, 2], *calls)
        self.check([-1], [1, 0], *calls)
        self.check([-1], [1, 0, 2, 3], *calls)
        self.check([-1], [1, 0, 2, 2], *calls)

    def test_one_that_must_come_first_does_not_stand_before(self):
        calls = [begin(COUNT)]
        for client in range(4):
            calls += alone(client, 0, 0, 0, 0, 0)
        self.check([0], [0, 1, 2, 3], *calls)
        self.check([-2, 0], [1, 0, 2, 3], *calls)
        self.check([-2, 0], [3, 2, 1, 0], *calls)
        self.check([-2, 1], [0, 2, 1, 3], *calls)
        self.check([-2, 1], [0, 3, 1, 2], *calls)
        self.check([-2, 2], [0, 1, 3, 2], *calls)

    def test_an_end_just_before_and_just_behind_a_beginning(self):
        self.check([-2, 0], [1, 0], begin(CELL), call(0, 0, 0), end(0, 0), call(1, 0, 0), end(1, 0))
        self.check([0], [1, 0], begin(CELL), call(0, 0, 0), call(1, 0, 0), end(0, 0), end(1, 0))

    def test_things_are_in_one_row(self):
        calls = [begin(CELL, COUNT), *alone(0, 0, 0, 0, 0, 0), *alone(1, 1, 0, 0, 0, 0)]
        self.check([0], [0, 1], *calls)
        self.check([-2, 0], [1, 0], *calls)

    def test_without_end_but_too_early(self):
        calls = [begin(CELL), *alone(0, 0, 0, 0, 0, 0), call(1, 0, 0), call(0, 0, 0)]
        self.check([-2, 0], [1, 0], *calls)
        self.check([-2, 0], [2, 0, 1], *calls)
        self.check([0], [0, 2, 1], *calls)
        self.check([0], [0, 2], *calls)

    def test_another_answer_than_it_did(self):
        calls = [begin(ROW), call(0, 0, 0, 5), call(1, 0, 0, 6), call(2, 0, 1), end(0, 0), end(1, 0), end(2, 6)]
        self.check([0], [1, 0, 2], *calls)
        self.check([0], [1, 2, 0], *calls)
        self.check([-3, 2], [0, 1, 2], *calls)
        self.check([-3, 1], [0, 2, 1], *calls)
        self.check([-3, 0], [2, 0, 1], *calls)
        self.check([-3, 0], [2, 1, 0], *calls)

    def test_the_first_of_several_wrong_answers(self):
        calls = [begin(LOCK), call(0, 0, 0), call(1, 0, 0), call(2, 0, 0), end(0, 1), end(1, 1), end(2, 1)]
        self.check([-3, 1], [0, 1, 2], *calls)
        self.check([-3, 0], [0, 1, 2], begin(LOCK), *alone(0, 0, 0, 0, 0, 0), *alone(1, 0, 0, 0, 0, 1),
                   *alone(2, 0, 0, 0, 0, 1))

    def test_minus_2_ahead_of_minus_3_at_one_place(self):
        # Ahead of the write, the read of 5 stands too early and answers something else.
        calls = [begin(CELL), *alone(0, 0, 1, 5, 0, 0), *alone(1, 0, 0, 0, 0, 5)]
        self.check([-2, 0], [1, 0], *calls)

    def test_the_first_place_of_either(self):
        # Operation 0 has answered wrong; 3 stands ahead of 2.
        calls = [begin(CELL), *alone(0, 0, 0, 0, 0, 7)]
        for client in (1, 2, 3):
            calls += alone(client, 0, 0, 0, 0, 0)
        self.check([-3, 0], [0, 1, 3, 2], *calls)
        # The other way round: 3 has answered wrong, 1 stands ahead of 0.
        calls = [begin(CELL)]
        for client in (0, 1, 2):
            calls += alone(client, 0, 0, 0, 0, 0)
        self.check([-2, 0], [1, 0, 2, 3], *calls, *alone(3, 0, 0, 0, 0, 7))
        self.check([-2, 1], [0, 2, 1, 3], *calls, *alone(3, 0, 0, 0, 0, 7))
        self.check([-3, 3], [0, 1, 2, 3], *calls, *alone(3, 0, 0, 0, 0, 7))

    def test_nine_operations(self):
        calls = [begin(COUNT)]
        for place in range(9):
            calls += alone(place % 4, 0, 1, 1, 0, place)
        self.check([0], list(range(9)), *calls)
        self.check([-2, 7], list(range(7)) + [8, 7], *calls)
        self.check([-3, 8], list(range(9)), *calls[:-1], end(0, 9))
        self.check([-1], list(range(10)), *calls)
        self.check([-1], list(range(9)) + [0, 1, 2], *calls)

    def test_the_row_that_order_tells(self):
        calls = [begin(PILE, CELL, LOCK), call(0, 0, 1), call(1, 1, 0), call(2, 2, 1), call(3, 0, 0, 8)]
        calls += [end(0, 8), end(3, 0), call(3, 2, 0), end(2, 1), call(2, 1, 1, 9), end(3, 1), end(2, 0), end(1, 9)]
        self.check([0], last(*calls, ORDER)[1:], *calls)

    def test_asking_changes_nothing(self):
        calls = [begin(CELL), call(0, 0, 1, 5), *alone(1, 0, 0, 0, 0, 5), held(), held(1), held(0, 1), held(9), held(1)]
        self.assertEqual(said(*calls, ORDER, show(0), end(0, 0), held(1), held(0, 1))[4:],
                         [[-1], [-3, 0], [0], [-1], [-3, 0], [2, 0, 1], [0, 0, 1, 5, 0, 0, -1], [0], [-1], [0]])
