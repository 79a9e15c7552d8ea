"""Promise 9: own."""

import unittest

from tests.helper import (CELL, COUNT, LINEAR, LOCK, PILE, ROW, SERIAL, SET, alone, begin, call, end, last, own, said,
                          show)


class Own(unittest.TestCase):
    def check(self, expected, *calls):
        """own of each of the four clients."""
        told = said(*calls, own(0), own(1), own(2), own(3))[-4:]
        self.assertEqual(told, [[one] for one in expected])

    def test_without_operations(self):
        self.check([1, 1, 1, 1], begin(CELL))
        self.check([1, 1, 1, 1], begin(LOCK, SET, PILE))

    def test_no_such_client(self):
        for client in range(4, 10):
            self.assertEqual(last(begin(CELL), own(client)), [-1])
            self.assertEqual(last(begin(CELL), *alone(0, 0, 0, 0, 0, 0), own(client)), [-1])

    def test_one_is_right_while_another_is_wrong(self):
        calls = [begin(CELL), *alone(0, 0, 1, 5, 0, 0), *alone(1, 0, 0, 0, 0, 7), *alone(3, 0, 0, 0, 0, 5)]
        self.check([1, 0, 1, 1], *calls)
        self.assertEqual(said(*calls, LINEAR, SERIAL)[-2:], [[0], [0]])

    def test_several_are_wrong(self):
        self.check([0, 1, 0, 1], begin(ROW), call(0, 0, 1), call(2, 0, 0, 5), call(1, 0, 1), end(0, 6), end(2, 1),
                   end(1, 5))

    def test_a_wrong_answer_of_each_kind(self):
        for kind, wrong in ((CELL, 1), (COUNT, 1), (ROW, 1), (PILE, 1), (SET, -1), (LOCK, 2)):
            for operation in (0, 1):
                calls = [begin(kind), *alone(2, 0, operation, 5, 0, wrong)]
                self.check([1, 1, 0, 1], *calls)

    def test_anothers_wrong_answer_is_no_matter_but_what_it_does_is(self):
        self.check([0, 1, 1, 1], begin(COUNT), *alone(0, 0, 1, 5, 0, 9), *alone(1, 0, 0, 0, 0, 5))
        self.check([0, 0, 1, 1], begin(COUNT), *alone(0, 0, 1, 5, 0, 9), *alone(1, 0, 0, 0, 0, 14))
        self.check([0, 1, 1, 1], begin(LOCK), *alone(0, 0, 0, 0, 0, 2), *alone(1, 0, 0, 0, 0, 0))
        self.check([0, 1, 1, 1], begin(SET), *alone(0, 0, 1, 4, 0, 0), *alone(1, 0, 2, 4, 0, 1))
        self.check([0, 1, 1, 1], begin(PILE), *alone(0, 0, 0, 4, 0, 4), *alone(1, 0, 1, 0, 0, 4))

    def test_time_is_no_matter(self):
        self.check([1, 1, 1, 1], begin(CELL), *alone(0, 0, 1, 5, 0, 0), *alone(1, 0, 0, 0, 0, 0))
        self.check([1, 1, 1, 1], begin(CELL), *alone(1, 0, 0, 0, 0, 5), *alone(0, 0, 1, 5, 0, 0))

    def test_its_own_order(self):
        self.check([0, 1, 1, 1], begin(CELL), *alone(0, 0, 1, 5, 0, 0), *alone(0, 0, 0, 0, 0, 0))
        self.check([1, 1, 1, 0], begin(CELL), *alone(3, 0, 0, 0, 0, 5), *alone(3, 0, 1, 5, 0, 0))

    def test_the_others_own_order_too(self):
        one = [begin(CELL), *alone(0, 0, 1, 1, 0, 0), *alone(0, 0, 1, 2, 0, 0)]
        two = [begin(CELL), *alone(0, 0, 1, 1, 0, 0), *alone(2, 0, 1, 2, 0, 0)]
        reads = alone(1, 0, 0, 0, 0, 2) + alone(1, 0, 0, 0, 0, 1)
        self.check([1, 0, 1, 1], *one, *reads)
        self.check([1, 1, 1, 1], *two, *reads)
        self.check([1, 1, 1, 1], *one, *alone(1, 0, 0, 0, 0, 1), *alone(1, 0, 0, 0, 0, 2))

    def test_each_by_itself_but_no_row_for_all(self):
        calls = [begin(CELL), call(0, 0, 1, 1), call(1, 0, 1, 2), end(0, 0), end(1, 0)]
        calls += alone(2, 0, 0, 0, 0, 1) + alone(2, 0, 0, 0, 0, 2) + alone(3, 0, 0, 0, 0, 2) + alone(3, 0, 0, 0, 0, 1)
        self.check([1, 1, 1, 1], *calls)
        self.assertEqual(last(*calls, SERIAL), [0])

    def test_all_things_in_one_row(self):
        calls = [begin(CELL, COUNT), *alone(0, 0, 1, 5, 0, 0), *alone(0, 1, 1, 3, 0, 0)]
        self.check([1, 0, 1, 1], *calls, *alone(1, 1, 0, 0, 0, 3), *alone(1, 0, 0, 0, 0, 0))
        self.check([1, 1, 1, 1], *calls, *alone(1, 0, 0, 0, 0, 0), *alone(1, 1, 0, 0, 0, 3))
        self.check([1, 1, 1, 1], *calls, *alone(1, 1, 0, 0, 0, 3), *alone(2, 0, 0, 0, 0, 0))

    def test_without_end_it_may_stand_or_not(self):
        calls = [begin(CELL), call(0, 0, 1, 5)]
        self.check([1, 1, 1, 1], *calls)
        self.check([1, 1, 1, 1], *calls, *alone(1, 0, 0, 0, 0, 0), *alone(1, 0, 0, 0, 0, 5))
        self.check([1, 0, 1, 1], *calls, *alone(1, 0, 0, 0, 0, 5), *alone(1, 0, 0, 0, 0, 0))

    def test_without_end_it_stands_once_at_the_most(self):
        calls = [begin(ROW), call(0, 0, 0, 5)]
        self.check([1, 1, 1, 1], *calls, *alone(1, 0, 1, 0, 0, 5), *alone(2, 0, 1, 0, 0, 5))
        self.check([1, 0, 1, 1], *calls, *alone(1, 0, 1, 0, 0, 5), *alone(1, 0, 1, 0, 0, 5))

    def test_its_own_without_end(self):
        self.check([1, 1, 1, 1], begin(CELL), *alone(1, 0, 0, 0, 0, 0), call(1, 0, 1, 5))
        self.check([1, 0, 1, 1], begin(CELL), *alone(1, 0, 0, 0, 0, 5), call(1, 0, 1, 5))

    def test_nine_operations(self):
        calls = [begin(PILE)]
        for place in range(8):
            calls += alone(place % 4, 0, 0, place + 1, 0, 0)
        for answer in range(1, 9):
            # Client 0 has put 5 on top of 1 itself; all else may lie on top when it takes.
            self.check([0 if answer == 1 else 1, 1, 1, 1], *calls, *alone(0, 0, 1, 0, 0, answer))
        self.check([0, 1, 1, 1], *calls, *alone(0, 0, 1, 0, 0, -1))

    def test_asking_changes_nothing(self):
        calls = [begin(CELL), *alone(1, 0, 0, 0, 0, 5)]
        self.assertEqual(said(*calls, own(1), own(4), own(1), call(0, 0, 1, 5), own(1), end(0, 0), own(1), show(1))[3:],
                         [[0], [-1], [0], [1], [1], [1], [1], [0, 0, 1, 5, 0, 2, 3, 0]])
