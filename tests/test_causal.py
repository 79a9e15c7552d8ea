"""Promise 10: causal."""

import unittest

from tests.helper import (CAUSAL, CELL, COUNT, LINEAR, LOCK, PILE, ROW, SERIAL, SET, alone, begin, call, end, last,
                          said, show)


def write(client, number, a):
    return alone(client, number, 1, a, 0, 0)


def read(client, number, answer):
    return alone(client, number, 0, 0, 0, answer)


class IsAsked(unittest.TestCase):
    def check(self, expected, *calls):
        self.assertEqual(last(*calls, CAUSAL), [expected])

    def test_all_things_are_cells(self):
        for kind in (COUNT, ROW, PILE, SET, LOCK):
            self.check(-6, begin(kind))
            self.check(-6, begin(CELL, kind))
            self.check(-6, begin(kind, CELL, CELL), *write(0, 1, 5))
            self.check(-6, begin(CELL, CELL, kind), *read(0, 0, 7))
        for many in (1, 2, 3):
            self.check(1, begin(*[CELL] * many))

    def test_reads_and_writes_alone(self):
        self.check(-6, begin(CELL), *alone(0, 0, 2, 5, 6, 0))
        self.check(-6, begin(CELL), call(0, 0, 2, 5, 6))
        self.check(-6, begin(CELL, CELL), *write(0, 0, 5), *read(1, 0, 5), *alone(2, 1, 2, 0, 3, 1))

    def test_no_0_is_written(self):
        self.check(-6, begin(CELL), *write(0, 0, 0))
        self.check(-6, begin(CELL), call(0, 0, 1, 0))
        self.check(-6, begin(CELL, CELL), *write(0, 0, 5), *write(3, 1, 0))

    def test_0_may_be_handed_over_otherwise(self):
        self.check(1, begin(CELL), call(0, 0, 0, 0, 0), end(0, 0))
        self.check(1, begin(CELL), call(0, 0, 1, 5, 0), end(0, 0))

    def test_nothing_is_written_twice_to_one_cell(self):
        self.check(-6, begin(CELL), *write(0, 0, 5), *write(0, 0, 5))
        self.check(-6, begin(CELL), *write(0, 0, 5), *write(1, 0, 5))
        self.check(-6, begin(CELL), call(0, 0, 1, 5), call(1, 0, 1, 5))
        self.check(-6, begin(CELL, CELL), *write(0, 1, 5), *write(1, 0, 5), *write(2, 1, 6), call(3, 1, 1, 5))

    def test_the_same_to_two_cells(self):
        self.check(1, begin(CELL, CELL, CELL), *write(0, 0, 5), *write(0, 1, 5), *write(1, 2, 5))

    def test_what_reads_hand_over_is_not_written(self):
        self.check(1, begin(CELL), call(0, 0, 0, 5), call(1, 0, 0, 5), call(2, 0, 1, 5), end(0, 5), end(1, 0))

    def test_not_asked_though_it_would_be_wrong(self):
        self.check(-6, begin(CELL), *read(0, 0, 7), *write(1, 0, 0))

    def test_asked_again_of_another_history(self):
        self.assertEqual(said(begin(ROW), CAUSAL, begin(CELL), CAUSAL, *write(0, 0, 0), CAUSAL, begin(CELL), CAUSAL),
                         [[0], [-6], [0], [1], [0], [0], [-6], [0], [1]])


class Causal(unittest.TestCase):
    def check(self, expected, *calls):
        self.assertEqual(last(*calls, CAUSAL), [expected])

    def test_what_is_linear(self):
        calls = [begin(CELL, CELL), call(0, 0, 1, 5), call(1, 1, 1, 5), *read(2, 0, 5), end(1, 0), *read(3, 1, 5)]
        self.assertEqual(said(*calls, LINEAR, CAUSAL)[-2:], [[1], [1]])

    def test_time_is_no_matter(self):
        self.check(1, begin(CELL), *write(0, 0, 5), *read(1, 0, 0))
        self.check(1, begin(CELL), *read(1, 0, 5), *write(0, 0, 5))

    def test_two_clients_read_in_different_orders(self):
        reads = read(2, 0, 1) + read(2, 0, 2) + read(3, 0, 2) + read(3, 0, 1)
        calls = [begin(CELL), *write(0, 0, 1), *write(1, 0, 2), *reads]
        self.assertEqual(said(*calls, SERIAL, CAUSAL)[-2:], [[0], [1]])
        # Of one client's writes all see the same order.
        self.check(0, begin(CELL), *write(0, 0, 1), *write(0, 0, 2), *reads)

    def test_a_clients_own_order(self):
        self.check(0, begin(CELL), *write(0, 0, 5), *read(0, 0, 0))
        self.check(0, begin(CELL), *read(0, 0, 5), *write(0, 0, 5))
        self.check(0, begin(CELL), *write(0, 0, 5), *read(1, 0, 5), *read(1, 0, 0))
        self.check(1, begin(CELL), *write(0, 0, 5), *read(1, 0, 0), *read(1, 0, 5))

    def test_what_was_seen_does_not_come_back(self):
        calls = [begin(CELL), *write(0, 0, 1), *write(1, 0, 2), *read(0, 0, 2)]
        self.check(1, *calls)
        self.check(1, *calls, *read(0, 0, 2))
        self.check(0, *calls, *read(0, 0, 1))
        self.check(1, *calls, *read(1, 0, 1))

    def test_for_each_client(self):
        for client in range(4):
            calls = [begin(CELL)]
            for other in range(4):
                calls += write(other, 0, other + 1) + read(other, 0, 0 if other == client else other + 1)
            self.check(0, *calls)
            self.check(1, *calls[:2 * 2 * client + 1], *calls[2 * 2 * client + 5:])

    def test_seen_over_two_steps(self):
        calls = [begin(CELL), *write(0, 0, 1), *read(1, 0, 1), *write(1, 0, 2)]
        self.check(0, *calls, *read(2, 0, 2), *read(2, 0, 1))
        self.check(1, *calls, *read(2, 0, 1), *read(2, 0, 2))
        # Without the read the writes are in no order.
        calls = [begin(CELL), *write(0, 0, 1), *read(1, 0, 0), *write(1, 0, 2)]
        self.check(1, *calls, *read(2, 0, 2), *read(2, 0, 1))

    def test_seen_over_two_cells(self):
        calls = [begin(CELL, CELL), *write(0, 0, 1), *read(1, 0, 1), *write(1, 1, 2), *read(2, 1, 2)]
        self.check(0, *calls, *read(2, 0, 0))
        self.check(1, *calls, *read(2, 0, 1))
        calls = [begin(CELL, CELL), *write(0, 0, 1), *read(1, 0, 0), *write(1, 1, 2), *read(2, 1, 2)]
        self.check(1, *calls, *read(2, 0, 0))
        self.check(1, *calls, *read(2, 0, 1))

    def test_seen_over_all_clients(self):
        calls = [begin(CELL, CELL, CELL), *write(0, 0, 1), *read(1, 0, 1), *write(1, 1, 1), *read(2, 1, 1)]
        calls += write(2, 2, 1) + read(3, 2, 1)
        self.check(0, *calls, *read(3, 0, 0))
        self.check(0, *calls, *read(3, 1, 0))
        self.check(1, *calls, *read(3, 0, 1))
        self.check(1, *calls, *read(3, 1, 1))

    def test_the_steps_may_stand_in_any_order(self):
        # The same in the order opposite to time's.
        calls = [begin(CELL, CELL, CELL), *read(3, 2, 1), *read(2, 1, 1), *write(2, 2, 1), *read(1, 0, 1)]
        calls += write(1, 1, 1) + write(0, 0, 1)
        self.check(0, *calls, *read(3, 0, 0))
        self.check(1, *calls, *read(3, 0, 1))

    def test_the_same_number_in_another_cell_is_not_seen(self):
        # Client 1 sees 1 in cell 1, which tells nothing of the 1 that client 0 wrote to cell 0.
        calls = [begin(CELL, CELL), *write(0, 0, 1), *write(3, 1, 1), *read(1, 1, 1), *write(1, 0, 2), *read(2, 0, 2)]
        self.check(1, *calls, *read(2, 0, 1))
        self.check(0, *calls, *read(2, 1, 0))

    def test_something_that_nobody_wrote(self):
        self.check(0, begin(CELL), *read(0, 0, 7))
        self.check(0, begin(CELL), *read(0, 0, -1))
        self.check(0, begin(CELL), *write(0, 0, 5), *read(1, 0, 6))
        self.check(0, begin(CELL, CELL), *write(0, 0, 5), *read(1, 1, 5))

    def test_a_write_that_answers_wrong(self):
        self.check(0, begin(CELL), *alone(0, 0, 1, 5, 0, 1))
        self.check(0, begin(CELL), *alone(0, 0, 1, 5, 0, 5), *read(1, 0, 5))

    def test_writes_without_end(self):
        calls = [begin(CELL), call(0, 0, 1, 5)]
        self.check(1, *calls)
        self.check(1, *calls, *read(1, 0, 0))
        self.check(1, *calls, *read(1, 0, 5))
        self.check(1, *calls, *read(1, 0, 5), *read(2, 0, 0))
        self.check(0, *calls, *read(1, 0, 5), *read(1, 0, 0))

    def test_a_write_without_end_that_was_seen_must_stand(self):
        calls = [begin(CELL, CELL), call(0, 0, 1, 1), *read(1, 0, 1), *write(1, 1, 2), *read(2, 1, 2)]
        self.check(0, *calls, *read(2, 0, 0))
        self.check(1, *calls, *read(2, 0, 1))

    def test_a_read_without_end_has_seen_nothing(self):
        calls = [begin(CELL, CELL), *write(0, 0, 1), call(1, 0, 0, 1)]
        self.check(1, *calls)
        self.check(1, *calls, *read(2, 0, 0))

    def test_one_that_must_come_before_itself(self):
        one = [begin(CELL, CELL), *read(0, 1, 2), *write(0, 0, 1)]
        self.check(0, *one, *read(1, 0, 1), *write(1, 1, 2))
        self.check(0, *one, *read(1, 0, 1), call(1, 1, 1, 2))
        self.check(1, *one, *read(1, 0, 0), *write(1, 1, 2))
        self.check(1, *one, *write(1, 1, 2), *read(1, 0, 1))
        self.check(0, begin(CELL), *read(0, 0, 5), call(0, 0, 1, 5))

    def test_nine_operations(self):
        calls = [begin(CELL, CELL, CELL), *write(0, 0, 1), *write(0, 1, 1), *write(1, 0, 2), *write(1, 1, 2)]
        calls += read(2, 1, 1) + read(2, 0, 2) + read(3, 1, 2) + read(3, 0, 1)
        self.assertEqual(said(*calls, SERIAL, CAUSAL)[-2:], [[0], [1]])
        self.check(1, *calls, *read(3, 1, 1))
        self.check(0, *calls, *read(3, 0, 0))

    def test_asking_changes_nothing(self):
        calls = [begin(CELL), *read(1, 0, 5), CAUSAL, CAUSAL, call(0, 0, 1, 5), CAUSAL, end(0, 0), CAUSAL]
        self.assertEqual(said(*calls, call(2, 0, 2), CAUSAL, CAUSAL, show(1))[3:],
                         [[0], [0], [1], [1], [1], [1], [2], [-6], [-6], [0, 0, 1, 5, 0, 2, 3, 0]])
