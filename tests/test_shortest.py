"""Promise 7: shortest."""

import unittest

from tests.helper import CELL, COUNT, LINEAR, LOCK, ROW, SHORTEST, alone, begin, call, end, last, said


class Shortest(unittest.TestCase):
    def check(self, expected, *calls):
        self.assertEqual(last(*calls, SHORTEST), [expected])

    def test_none(self):
        self.check(-3, begin(CELL))
        self.check(-3, begin(CELL), call(0, 0, 1, 5))
        self.check(-3, begin(CELL), *alone(0, 0, 1, 5, 0, 0), *alone(1, 0, 0, 0, 0, 5))

    def test_least_of_all(self):
        self.check(2, begin(CELL), *alone(0, 0, 0, 0, 0, 1))

    def test_as_many_events_as_there_are(self):
        self.check(4, begin(CELL), *alone(0, 0, 1, 5, 0, 0), *alone(1, 0, 0, 0, 0, 0))

    def test_eighteen_events(self):
        calls = [begin(COUNT)]
        for place in range(9):
            calls += alone(place % 4, 0, 1, 1, 0, place)
        self.check(-3, *calls)
        self.check(18, *calls[:-1], end(0, 9))

    def test_what_comes_later_does_not_count(self):
        calls = [begin(CELL), *alone(0, 0, 0, 0, 0, 5)]
        self.check(2, *calls, *alone(1, 0, 1, 5, 0, 0))
        self.check(2, *calls, *alone(1, 0, 0, 0, 0, 6), *alone(2, 0, 0, 0, 0, 7))

    def test_begun_in_time_may_explain(self):
        self.check(-3, begin(CELL), call(0, 0, 0), call(1, 0, 1, 5), end(0, 5), end(1, 0))
        self.check(2, begin(CELL), call(0, 0, 0), end(0, 5), call(1, 0, 1, 5), end(1, 0))

    def test_of_what_ends_later_it_is_not_known(self):
        # The write's answer is a wrong one, but until it ends the read of what it writes is in order.
        calls = [begin(CELL), call(0, 0, 1, 5), *alone(1, 0, 0, 0, 0, 5), call(2, 0, 0)]
        self.check(-3, *calls)
        self.check(5, *calls, end(0, 1), end(2, 5))
        self.check(6, *calls, end(2, 5), end(0, 1))
        self.check(5, *calls, end(2, 0), end(0, 1))

    def test_only_the_end_tells(self):
        # Nothing tells that the second try was in vain before it ends.
        calls = [begin(LOCK), call(0, 0, 0), call(1, 0, 0), call(2, 0, 0), end(0, 1)]
        self.check(5, *calls, end(1, 1), end(2, 0))
        self.check(6, *calls, end(2, 0), end(1, 1))
        self.check(-3, *calls, end(2, 0), end(1, 0))

    def test_first_wrong_thing_of_several(self):
        calls = [begin(CELL, ROW, COUNT), call(0, 0, 0), call(1, 1, 1), call(2, 2, 0)]
        self.check(4, *calls, end(2, 1), end(1, 3), end(0, 4))
        self.check(5, *calls, end(2, 0), end(1, 3), end(0, 4))
        self.check(6, *calls, end(2, 0), end(1, -1), end(0, 4))
        self.check(-3, *calls, end(2, 0), end(1, -1), end(0, 0))

    def test_refused_calls_are_no_events(self):
        self.check(2, begin(CELL), end(0, 0), call(4, 0, 0), call(0, 0, 0), call(0, 0, 0), end(5, 1), end(0, 1))

    def test_as_linear_is_of_the_first_calls(self):
        events = [call(0, 0, 0, 1), call(1, 0, 0, 2), call(2, 0, 1), end(2, 2), call(2, 0, 1), end(0, 0), call(0, 0, 1),
                  end(1, 0), end(0, 1), end(2, 1), call(3, 0, 1), end(3, 1)]
        told = [last(begin(ROW), *events[:many], LINEAR)[0] for many in range(len(events) + 1)]
        self.assertEqual(told, [1] * 10 + [0] * 3)
        self.check(10, begin(ROW), *events)

    def test_asking_changes_nothing(self):
        calls = [begin(CELL), call(0, 0, 0), end(0, 0), call(1, 0, 1, 5)]
        self.assertEqual(said(*calls, SHORTEST, SHORTEST, end(1, 1), SHORTEST, LINEAR)[-5:], [[-3], [-3], [1], [4], [0]])
