"""The interface: what is handed in, what is given back, and that nothing is kept."""

import random
import unittest

from seenhistory.orders import answers
from tests.helper import (BLAME, CAUSAL, CELL, COUNT, LINEAR, ORDER, ROW, SERIAL, SET, SHORTEST, alone, begin, call,
                          end, held, late, own, play, said, show, thing)

# Every call there is: ahead of a history, of one, and of another one begun in the middle.
LONG = [3, 0, 1, 6, 0, 2, 0, 2, 1, 3, 1, 1, 5, 0, 1, 0, 0, 1, 1, 1, 1, 0, 0, 1, 3, 0, 0, 0, 0, 1, 2, 1, 0, 8, 9,
        2, 0, 0, 2, 3, 5, 2, 1, 8, 2, 2, 0, 2, 2, 0, 3, 4, 0, 4, 1, 4, 2, 5, 6, 7, 2, 9, 1, 1, 7, 0, 0, 0, 0, 5,
        8, 0, 8, 3, 9, 10, 0, 10, 2, 11, 12, 3, 2, 1, 0, 13, 2, 1, 0, 13, 0, 14, 0, 14, 20, 0, 1, 0, 14, 0, 9,
        1, 2, 0, 1, 7, 7, 12, 0, 13, 1, 0, 14, 0, 2, 2, 0, 12, 1, 0, 11, 9, 10, 0, 8, 2]

QUESTIONS = [LINEAR, thing(0), thing(1), thing(2), thing(3), ORDER, SHORTEST, SERIAL, own(0), own(1), own(2), own(3),
             own(4), CAUSAL, late(0), late(1), late(2), late(3), BLAME, held(), held(0, 1, 2, 3, 4, 5, 6, 7, 8),
             held(0, 2, 1, 3, 4, 5, 6, 7), held(9), play(), play(6, 8), play(0, 0), play(8, 7, 6, 5, 4, 3, 2, 1, 0),
             show(0), show(8), show(9)]


def nine_operations():
    """Eighteen calls: a begin, nine operations on three things by four clients, of which one does not end."""
    calls = [begin(CELL, ROW, SET), call(0, 0, 1, 5), call(1, 1, 0, 7), call(2, 0, 0), end(0, 0), end(2, 0)]
    calls += alone(0, 2, 1, 4, 0, 1) + alone(2, 0, 0, 0, 0, 5) + [end(1, 0)] + alone(1, 2, 0, 4, 0, 0)
    return calls + alone(3, 1, 1, 0, 0, 7) + [call(3, 1, 1), call(0, 2, 2, 4), end(3, 7)]


class Interface(unittest.TestCase):
    def test_how_many_and_then_these(self):
        self.assertEqual(answers([3]), [1, -9])
        self.assertEqual(answers([0, 1, 0]), [1, 0])
        self.assertEqual(answers([0, 0]), [1, -1])
        self.assertEqual(answers([0, 1, 0, 5]), [1, 0, 1, 0])
        self.assertEqual(answers([0, 1, 0, 1, 2, 0, 1, 5, 0, 2, 2, 0, 1, 3, 0, 0, 9, 9, 2, 3, 5, 5, 6, 3, 4, 0, 7]),
                         [1, 0, 1, 0, 1, 0, 1, 1, 1, 1, 3, 2, 0, 1, 1, -3, 1, 1, 1, 1, 1, 1])
        self.assertEqual(answers([0, 1, 0, 1, 2, 0, 0, 0, 0, 2, 2, 1, 3, 4, 0, 5, 6, 7, 4, 1]),
                         [1, 0, 1, 0, 1, 0, 1, 0, 1, 0, 1, -3, 1, 2, 1, 0, 1, -1])

    def test_how_many_and_then_these_of_the_others(self):
        # A pile, of which client 2 takes 7 and client 3 has put 7.
        calls = [0, 1, 3, 1, 2, 0, 1, 0, 0, 2, 2, 7, 1, 3, 0, 0, 7, 9, 2, 3, 0]
        begun = [1, 0, 1, 0, 1, 0, 1, 1, 1, 1]
        for asked, told in (([8, 2], [1, 1]), ([8, 4], [1, -1]), ([9], [1, -6]), ([10, 0], [1, 1]), ([10, 1], [1, -1]),
                            ([11], [2, 1, 0]), ([12, 2, 1, 0], [2, -2, 0]), ([12, 2, 0, 1], [2, -3, 0]),
                            ([12, 0], [1, -1]), ([13, 0], [0]), ([13, 1, 0], [1, -1]), ([13, 1, 2], [1, -1]),
                            ([13, 2, 1, 0], [2, 0, 7]), ([14, 0], [8, 2, 0, 1, 0, 0, 0, 1, 7]),
                            ([14, 1], [8, 3, 0, 0, 7, 9, 2, 3, 0]), ([14, 2], [1, -1])):
            self.assertEqual(answers(calls + asked), begun + told)
            self.assertEqual(answers(calls + asked + [3] + asked), begun + told + [1, 0] + told)
        self.assertEqual(answers([0, 1, 0, 9, 11, 12, 0, 10, 0, 8, 3, 1, 1, 0, 1, 5, 6, 14, 0]),
                         [1, 0, 1, 1, 1, 0, 1, 0, 1, 0, 1, 1, 1, 0, 7, 1, 0, 1, 5, 6, 0, -1])

    def test_begins_of_every_length(self):
        for many in range(11):
            told = answers([0, many] + [0] * many + [0, 1, 5, 0, many] + [9] * many + [3])
            self.assertEqual(told, [1, 0 if 1 <= many <= 3 else -1, 1, 0, 1, -1, 1, 1])

    def test_rows_of_every_length(self):
        for many in range(13):
            told = answers([0, 1, 0, 12, many] + [20] * many + [13, many] + [20] * many + [3])
            self.assertEqual(told, [1, 0, 1, -1, 1, -1, 1, 1] if many else [1, 0, 1, 0, 0, 1, 1])

    def test_sixty_calls(self):
        self.assertEqual(answers([0, 1, 0] + [3] * 59), [1, 0] + [1, 1] * 59)

    def test_whole_numbers_in_a_list(self):
        told = answers(LONG)
        self.assertIs(type(told), list)
        for number in told:
            self.assertIs(type(number), int)

    def test_what_is_handed_in_is_not_changed(self):
        handed = list(LONG)
        answers(handed)
        self.assertEqual(handed, LONG)

    def test_not_for_a_while_either(self):
        class Watched(list):
            def refuse(self, *args, **named):
                raise AssertionError("what is handed in was changed")

            append = extend = insert = pop = remove = clear = sort = reverse = refuse
            __setitem__ = __delitem__ = __iadd__ = __imul__ = refuse

        self.assertEqual(answers(Watched(LONG)), answers(list(LONG)))

    def test_twice_alike(self):
        told = answers(LONG)
        self.assertEqual(answers(LONG), told)
        self.assertIsNot(answers(LONG), told)

    def test_nothing_is_kept(self):
        answers(LONG)
        self.assertEqual(answers([3, 7, 2, 0, 0, 8, 0, 9, 10, 0, 11, 12, 0, 13, 0, 14, 0]), [1, -9] * 10)
        told = answers(LONG)
        told.clear()
        self.assertNotEqual(answers(LONG), [])


class WholeLines(unittest.TestCase):
    """All fifteen calls in one list, in any order."""

    BEGUN = [[0], [0], [1], [2], [0], [2], [3], [3], [4], [4], [1], [5], [5], [6], [6], [7], [8], [7]]
    TOLD = [[0], [1], [0], [0], [-1], [-3], [12], [0], [1], [1], [1], [0], [-1], [-6], [0], [-3], [4], [-1], [0], [-1],
            [-3, 2], [-3, 1], [-1], [], [-1, 0], [-1], [0, -1, -1, 0, 0, 1, 0, 0, 0], [0, 0, 1, 5, 0, 0, 3, 0],
            [0, 2, 2, 4, 0, 15, -1], [-1]]

    def test_what_each_answers(self):
        self.assertEqual(said(*nine_operations(), *QUESTIONS), self.BEGUN + self.TOLD)

    def test_in_any_order(self):
        chance = random.Random(1)
        for turn in range(20):
            places = list(range(len(QUESTIONS)))
            chance.shuffle(places)
            asked = [QUESTIONS[place] for place in places]
            self.assertEqual(said(*nine_operations(), *asked), self.BEGUN + [self.TOLD[place] for place in places])

    def test_asked_between_calls_and_ends(self):
        """Whatever is asked in between, what follows is answered as if it had not been."""
        for question in QUESTIONS:
            calls = []
            for one in nine_operations():
                calls += [one, question]
            told = said(*calls, question)
            self.assertEqual(told[0:36:2], self.BEGUN)
            self.assertEqual(told[-1], told[-2])
            self.assertEqual(told[-1], self.TOLD[QUESTIONS.index(question)])

    def test_refused_between_calls_and_ends(self):
        """What is refused changes nothing."""
        refused = [begin(), begin(6), begin(0, 0, 0, 0), call(4, 0, 0), call(0, 3, 0), call(0, 1, 2), end(4, 0),
                   thing(3), own(4), late(3), held(9), play(9), show(9)]
        for one in refused:
            calls = [one]
            for other in nine_operations():
                calls += [other, one]
            told = said(*calls)
            self.assertEqual(told[1::2], self.BEGUN)
            self.assertEqual([answer[0] for answer in told[2::2]], [-1] * 18)
            for question, answer in zip(QUESTIONS, self.TOLD):
                self.assertEqual(said(*calls, question)[-1], answer)

    def test_sixty_calls_with_nine_operations_and_a_second_begin(self):
        again = [begin(CELL, CELL), call(3, 1, 1, 9, 1), *alone(2, 1, 0, 0, 0, 9), CAUSAL, show(0), held(0, 1), play(1),
                 BLAME, late(0), own(2)]
        told = said(*nine_operations(), *QUESTIONS, *again, ORDER)
        self.assertEqual(len(told), 60)
        self.assertEqual(told, self.BEGUN + self.TOLD
                         + [[0], [0], [1], [1], [1], [3, 1, 1, 9, 1, 0, -1], [0], [0], [1, 1], [0], [1], [2, 0, 1]])

    def test_a_second_begin_between_and_nine_operations_after_it(self):
        calls = [begin(COUNT), *alone(0, 0, 1, 5, 0, 9), call(1, 0, 0), BLAME, late(0)]
        told = said(*calls, *nine_operations(), *QUESTIONS)
        self.assertEqual(told, [[0], [0], [0], [1], [1, 0], [-3]] + self.BEGUN + self.TOLD)

    def test_alike_twice_and_not_changed(self):
        line = []
        for one in nine_operations() + QUESTIONS:
            line += one
        before = list(line)
        self.assertEqual(answers(line), answers(line))
        self.assertEqual(line, before)
