"""Promise 11: late."""

import unittest

from tests.helper import (CELL, COUNT, LINEAR, LOCK, PILE, ROW, SET, alone, begin, call, end, last, late, said, show,
                          thing)


class Late(unittest.TestCase):
    def check(self, expected, *calls):
        """late of thing 0."""
        self.assertEqual(said(*calls, late(0), thing(0))[-2:], [[expected], [1 if expected == 0 else 0]])

    def test_not_late_at_all(self):
        self.check(0, begin(CELL))
        self.check(0, begin(CELL), call(0, 0, 1, 5))
        self.check(0, begin(CELL), *alone(0, 0, 1, 5, 0, 0), *alone(1, 0, 0, 0, 0, 5))
        self.check(0, begin(CELL), call(0, 0, 1, 5), call(1, 0, 0), end(0, 0), end(1, 0))

    def test_no_such_thing(self):
        for many in (1, 2, 3):
            for number in range(10):
                expected = [0] if number < many else [-1]
                self.assertEqual(last(begin(*[PILE] * many), late(number)), expected)

    def test_none(self):
        self.check(-3, begin(CELL), *alone(0, 0, 0, 0, 0, 7))
        self.check(-3, begin(CELL), call(0, 0, 1, 5), call(1, 0, 0), end(0, 0), end(1, 7))
        self.check(-3, begin(LOCK), *alone(0, 0, 0, 0, 0, 1), *alone(1, 0, 0, 0, 0, 1))

    def test_a_clients_own_order_is_kept_however_late(self):
        self.check(-3, begin(CELL), *alone(0, 0, 1, 5, 0, 0), *alone(0, 0, 0, 0, 0, 0))
        self.check(-3, begin(CELL), *alone(0, 0, 0, 0, 0, 5), *alone(0, 0, 1, 5, 0, 0))
        self.check(1, begin(CELL), *alone(0, 0, 0, 0, 0, 5), *alone(1, 0, 1, 5, 0, 0))

    def test_one_event_of_each_kind(self):
        self.check(1, begin(CELL), *alone(0, 0, 1, 5, 0, 0), *alone(1, 0, 0, 0, 0, 0))
        self.check(1, begin(COUNT), *alone(0, 0, 1, 4, 0, 5), *alone(1, 0, 1, 5, 0, 0))
        self.check(1, begin(ROW), *alone(0, 0, 1, 0, 0, 3), *alone(1, 0, 0, 3, 0, 0))
        self.check(1, begin(PILE), *alone(0, 0, 0, 3, 0, 0), *alone(1, 0, 1, 0, 0, -1))
        self.check(1, begin(SET), *alone(0, 0, 1, 4, 0, 0), *alone(1, 0, 1, 4, 0, 1))
        self.check(1, begin(LOCK), *alone(0, 0, 0, 0, 0, 0), *alone(1, 0, 0, 0, 0, 1))

    def test_as_many_events_as_from_the_end_to_the_beginning(self):
        for between in range(7):
            calls = [begin(CELL, COUNT), *alone(0, 0, 1, 5, 0, 0)]
            for place in range(between):
                calls += alone(2, 1, 0, 0, 0, 0)
            self.check(1 + 2 * between, *calls, *alone(1, 0, 0, 0, 0, 0))
            # One event more lies between.
            self.check(2 + 2 * between, *calls, call(3, 1, 0), *alone(1, 0, 0, 0, 0, 0))

    def test_ends_and_beginnings_of_others_between(self):
        calls = [begin(CELL, ROW), call(2, 1, 1), call(0, 0, 1, 5), end(0, 0), end(2, -1), call(3, 1, 1)]
        # The write ends at event 2, the read begins at event 5.
        self.check(3, *calls, call(1, 0, 0), end(3, -1), end(1, 0))

    def test_refused_calls_are_no_events(self):
        calls = [begin(CELL), *alone(0, 0, 1, 5, 0, 0), end(0, 0), call(7, 0, 0), call(0, 1, 0), late(0)]
        self.check(1, *calls, *alone(1, 0, 0, 0, 0, 0))

    def test_the_latest_of_several(self):
        # The read of 0 must go ahead of both writes, which end at events 1 and 3; it begins at event 4.
        calls = [begin(CELL), *alone(0, 0, 1, 1, 0, 0), *alone(1, 0, 1, 2, 0, 0)]
        self.check(3, *calls, *alone(2, 0, 0, 0, 0, 0))
        self.check(1, *calls, *alone(2, 0, 0, 0, 0, 1))
        self.check(0, *calls, *alone(2, 0, 0, 0, 0, 2))

    def test_the_row_that_is_least_late(self):
        # The write of 6 ends at event 5; what contradicts it may be put ahead of it, or it behind that.
        calls = [begin(CELL), *alone(0, 0, 1, 5, 0, 0), *alone(1, 0, 0, 0, 0, 5), *alone(2, 0, 1, 6, 0, 0)]
        self.check(1, *calls, *alone(3, 0, 0, 0, 0, 5))
        self.check(1, *calls, *alone(3, 0, 1, 5, 0, 0), *alone(1, 0, 0, 0, 0, 6))
        self.check(3, *calls, *alone(3, 0, 0, 0, 0, 6), *alone(1, 0, 0, 0, 0, 5))

    def test_without_end(self):
        # A write that has not ended may come behind any, but not ahead of what ended before it began.
        self.check(0, begin(CELL), call(0, 0, 1, 5), *alone(1, 0, 0, 0, 0, 5))
        self.check(1, begin(CELL), *alone(1, 0, 0, 0, 0, 5), call(0, 0, 1, 5))
        self.check(2, begin(CELL), *alone(1, 0, 0, 0, 0, 5), call(2, 0, 0), call(0, 0, 1, 5))
        self.check(-3, begin(CELL), *alone(1, 0, 0, 0, 0, 5), call(1, 0, 1, 5))

    def test_most_events_of_all(self):
        # The first one ends at event 1, the last one begins at event 16.
        calls = [begin(CELL), *alone(0, 0, 0, 0, 0, 5)]
        for place in range(7):
            calls += alone(1 + place % 3, 0, 1, 6 + place, 0, 0)
        self.check(15, *calls, call(1, 0, 1, 5))
        self.check(15, *calls, *alone(1, 0, 1, 5, 0, 0))
        self.check(-3, *calls, *alone(0, 0, 1, 5, 0, 0))

    def test_each_thing_by_itself(self):
        calls = [begin(CELL, CELL, COUNT), call(0, 0, 1, 5), call(1, 1, 1, 5), end(0, 0), end(1, 0)]
        calls += alone(2, 1, 0, 0, 0, 0) + alone(3, 0, 0, 0, 0, 0) + alone(2, 2, 0, 0, 0, 9)
        self.assertEqual(said(*calls, late(0), late(1), late(2), late(3))[-4:], [[4], [1], [-3], [-1]])

    def test_0_of_each_thing_if_linear(self):
        calls = [begin(ROW, PILE, SET), call(0, 0, 1), call(1, 1, 1), call(2, 2, 0, 4), call(3, 0, 0, 5), end(0, 5)]
        calls += [call(0, 1, 0, 6), end(1, 6), call(1, 2, 1, 4), end(2, 1)]
        self.assertEqual(said(*calls, LINEAR, late(0), late(1), late(2))[-4:], [[1], [0], [0], [0]])

    def test_asking_changes_nothing(self):
        calls = [begin(CELL), *alone(1, 0, 0, 0, 0, 5), late(0), late(1), late(0), call(0, 0, 1, 5), late(0), end(0, 0)]
        self.assertEqual(said(*calls, late(0), late(0), show(1))[3:],
                         [[-3], [-1], [-3], [1], [1], [1], [1], [1], [0, 0, 1, 5, 0, 2, 3, 0]])
