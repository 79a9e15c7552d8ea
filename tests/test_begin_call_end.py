"""Promises 1 to 3: begin, call, end."""

import unittest

from tests.helper import (BLAME, CAUSAL, CELL, COUNT, LINEAR, LOCK, ORDER, PILE, ROW, SERIAL, SET, SHORTEST,
                          begin, call, end, held, last, late, own, play, said, show, thing)


class Begin(unittest.TestCase):
    def test_every_kind_alone(self):
        for kind in range(6):
            self.assertEqual(said(begin(kind)), [[0]])

    def test_one_to_three_things(self):
        self.assertEqual(said(begin(5), begin(0, 5), begin(3, 3, 3)), [[0], [0], [0]])

    def test_too_few_and_too_many_things(self):
        self.assertEqual(said(begin()), [[-1]])
        self.assertEqual(said(begin(0, 0, 0, 0)), [[-1]])
        self.assertEqual(said(begin(*[0] * 10)), [[-1]])

    def test_no_such_kind(self):
        for kind in (6, 7, 8, 9):
            self.assertEqual(said(begin(kind)), [[-1]])
            self.assertEqual(said(begin(0, kind)), [[-1]])
            self.assertEqual(said(begin(0, 5, kind)), [[-1]])

    def test_refused_begin_makes_no_history(self):
        self.assertEqual(said(begin(6), LINEAR), [[-1], [-9]])

    def test_refused_begin_keeps_the_history(self):
        calls = [begin(CELL), call(0, 0, 0), end(0, 7)]
        self.assertEqual(last(*calls, begin(), LINEAR), [0])
        self.assertEqual(last(*calls, begin(0, 1, 2, 3), SHORTEST), [2])
        self.assertEqual(last(*calls, begin(6), call(1, 0, 0)), [1])
        self.assertEqual(last(*calls, begin(0, 9), thing(1)), [-1])

    def test_begin_instead_of_what_there_was(self):
        calls = [begin(CELL, CELL), call(0, 0, 0), end(0, 7), call(1, 1, 0), begin(COUNT)]
        self.assertEqual(last(*calls, LINEAR), [1])
        self.assertEqual(last(*calls, ORDER), [0])
        self.assertEqual(last(*calls, thing(1)), [-1])
        self.assertEqual(last(*calls, end(1, 0)), [-2])
        self.assertEqual(last(*calls, call(1, 0, 1, 5)), [0])
        self.assertEqual(last(*calls, call(1, 0, 2)), [-1])

    def test_events_are_counted_anew(self):
        calls = [begin(CELL), call(0, 0, 0), end(0, 0), begin(CELL), call(0, 0, 0), end(0, 7)]
        self.assertEqual(last(*calls, SHORTEST), [2])


class Call(unittest.TestCase):
    def test_numbers_from_0_on(self):
        self.assertEqual(said(begin(CELL, ROW), call(3, 0, 0), call(1, 1, 0, 99, 99), call(0, 0, 2), call(2, 1, 1)),
                         [[0], [0], [1], [2], [3]])

    def test_number_goes_on_behind_an_end(self):
        self.assertEqual(said(begin(CELL), call(0, 0, 0), end(0, 0), call(0, 0, 0), end(0, 0)),
                         [[0], [0], [0], [1], [1]])

    def test_operations_of_each_kind(self):
        many = {CELL: 3, COUNT: 2, ROW: 2, PILE: 2, SET: 3, LOCK: 2}
        for kind in range(6):
            for operation in range(10):
                expected = [0] if operation < many[kind] else [-1]
                self.assertEqual(last(begin(kind), call(0, 0, operation)), expected)

    def test_operation_is_one_of_its_own_thing(self):
        self.assertEqual(said(begin(LOCK, SET), call(0, 0, 2), call(0, 1, 2)), [[0], [-1], [0]])

    def test_no_such_client(self):
        for client in range(10):
            expected = [0] if client < 4 else [-1]
            self.assertEqual(last(begin(CELL), call(client, 0, 0)), expected)

    def test_no_such_thing(self):
        for many in (1, 2, 3):
            for number in range(10):
                expected = [0] if number < many else [-1]
                self.assertEqual(last(begin(*[CELL] * many), call(0, number, 0)), expected)

    def test_one_operation_at_a_time(self):
        self.assertEqual(said(begin(CELL), call(0, 0, 0), call(0, 0, 0), call(1, 0, 0), end(0, 0), call(0, 0, 0)),
                         [[0], [0], [-2], [1], [0], [2]])

    def nine(self):
        calls = [begin(CELL)]
        for place in range(9):
            calls += [call(place % 4, 0, 0), end(place % 4, 0)]
        return calls

    def test_nine_operations(self):
        self.assertEqual(said(*self.nine())[1::2], [[place] for place in range(9)])
        self.assertEqual(last(*self.nine(), call(0, 0, 0)), [-5])

    def test_nine_of_which_some_have_not_ended(self):
        calls = self.nine()[:-2] + [call(0, 0, 0)]
        self.assertEqual(last(*calls), [8])
        self.assertEqual(last(*calls, call(1, 0, 0)), [-5])
        self.assertEqual(last(*calls, call(1, 0, 0), end(0, 0)), [8])

    def test_order_of_refusals(self):
        self.assertEqual(last(begin(CELL), call(0, 0, 0), call(0, 1, 0)), [-1])
        self.assertEqual(last(begin(CELL), call(0, 0, 0), call(0, 0, 3)), [-1])
        full = self.nine()[:-1]
        self.assertEqual(last(*full, call(0, 0, 0)), [-2])
        self.assertEqual(last(*full, call(4, 0, 0)), [-1])
        self.assertEqual(last(*full, call(0, 0, 3)), [-1])
        self.assertEqual(last(*full, call(1, 0, 0)), [-5])
        self.assertEqual(last(*full, call(1, 1, 0)), [-1])

    def test_refused_call_changes_nothing(self):
        refused = [call(4, 0, 0), call(0, 1, 0), call(0, 0, 3), call(1, 0, 1, 5)]
        calls = [begin(CELL), call(1, 0, 0)] + refused + [call(0, 0, 0), end(0, 7)]
        self.assertEqual(said(*calls)[2:], [[-1], [-1], [-1], [-2], [1], [1]])
        # A refused write of 5 explains no read; refused calls are no events.
        self.assertEqual(last(*calls, end(1, 5), SHORTEST), [3])
        self.assertEqual(last(*calls[:-1], end(0, 0), end(1, 5), SHORTEST), [4])

    def test_call_at_nine_changes_nothing(self):
        calls = self.nine()[:-1] + [call(1, 0, 1, 5), call(2, 0, 1, 5), end(0, 5)]
        self.assertEqual(said(*calls)[-3:], [[-5], [-5], [8]])
        self.assertEqual(last(*calls, LINEAR), [0])
        self.assertEqual(last(*calls, SHORTEST), [18])
        self.assertEqual(last(*calls, end(1, 0)), [-2])


class End(unittest.TestCase):
    def test_the_number_of_the_clients_operation(self):
        self.assertEqual(said(begin(CELL), call(2, 0, 0), call(1, 0, 0), call(3, 0, 0), end(1, 0), end(3, 0), end(2, 0)),
                         [[0], [0], [1], [2], [1], [2], [0]])

    def test_any_answer(self):
        for answer in (-1, 0, 1, 99, 2000):
            self.assertEqual(last(begin(CELL), call(0, 0, 0), end(0, answer)), [0])

    def test_the_answer_is_kept(self):
        for answer in (-1, 0, 1, 99, 2000):
            calls = [begin(COUNT), call(0, 0, 0), end(0, answer)]
            self.assertEqual(last(*calls, LINEAR), [1 if answer == 0 else 0])

    def test_no_such_client(self):
        for client in range(4, 10):
            self.assertEqual(last(begin(CELL), end(client, 0)), [-1])
            self.assertEqual(last(begin(CELL), call(0, 0, 0), end(client, 0)), [-1])

    def test_nothing_to_end(self):
        for client in range(4):
            self.assertEqual(last(begin(CELL), end(client, 0)), [-2])
        self.assertEqual(last(begin(CELL), call(0, 0, 0), end(1, 0)), [-2])
        self.assertEqual(last(begin(CELL), call(0, 0, 0), end(0, 0), end(0, 0)), [-2])

    def test_refused_end_changes_nothing(self):
        calls = [begin(CELL), end(0, 7), end(9, 7), call(0, 0, 0), end(1, 7), end(4, 7)]
        self.assertEqual(last(*calls, ORDER), [0])
        self.assertEqual(last(*calls, end(0, 7), SHORTEST), [2])
        self.assertEqual(last(*calls, end(0, 0), end(0, 7), LINEAR), [1])


class WithoutHistory(unittest.TestCase):
    def test_all_but_begin_are_refused(self):
        refused = [call(0, 0, 0), end(0, 0), LINEAR, thing(0), ORDER, SHORTEST, SERIAL, own(0), CAUSAL, late(0), BLAME,
                   held(), held(0), play(), play(0), show(0)]
        for one in refused:
            self.assertEqual(said(one), [[-9]])
            self.assertEqual(said(begin(6), one, begin(CELL)), [[-1], [-9], [0]])
        self.assertEqual(said(*refused), [[-9]] * 16)

    def test_ahead_of_all_other_refusals(self):
        refused = [call(9, 9, 9), end(9, 0), thing(9), own(9), late(9), held(20, 20), held(*[20] * 12), play(20, 20),
                   play(*[20] * 12), show(20)]
        self.assertEqual(said(*refused), [[-9]] * 10)

    def test_a_history_from_begin_on(self):
        self.assertEqual(said(LINEAR, begin(), LINEAR, begin(CELL), LINEAR), [[-9], [-1], [-9], [0], [1]])
