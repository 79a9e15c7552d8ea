"""The interface: what is handed in, what is given back, and that nothing is kept."""

import unittest

from seenhistory.orders import answers

LONG = [3, 0, 1, 6, 0, 2, 0, 2, 1, 3, 1, 1, 5, 0, 1, 0, 0, 1, 1, 1, 1, 0, 0, 1, 3, 0, 0, 0, 0, 1, 2, 1, 0, 8, 9,
        2, 0, 0, 2, 3, 5, 2, 1, 8, 2, 2, 0, 2, 2, 0, 3, 4, 0, 4, 1, 4, 2, 5, 6, 7, 2, 9, 1, 1, 7, 0, 0, 0, 0, 5]


class Interface(unittest.TestCase):
    def test_how_many_and_then_these(self):
        self.assertEqual(answers([3]), [1, -9])
        self.assertEqual(answers([0, 1, 0]), [1, 0])
        self.assertEqual(answers([0, 0]), [1, -1])
        self.assertEqual(answers([0, 1, 0, 5]), [1, 0, 1, 0])
        self.assertEqual(answers([0, 1, 0, 1, 2, 0, 1, 5, 0, 2, 2, 0, 1, 3, 0, 0, 9, 9, 2, 3, 5, 5, 6, 3, 4, 0, 7]),
                         [1, 0, 1, 0, 1, 0, 1, 1, 1, 1, 3, 2, 0, 1, 1, -3, 1, 1, 1, 1, 1, 1])
        self.assertEqual(answers([0, 1, 0, 1, 2, 0, 0, 0, 0, 2, 2, 1, 3, 4, 0, 5, 6, 7, 4, 1]),
                         [1, 0, 1, 0, 1, 0, 1, 0, 1, 0, 1, -3, 1, 2, 1, 0, 1, -1])

    def test_begins_of_every_length(self):
        for many in range(11):
            told = answers([0, many] + [0] * many + [0, 1, 5, 0, many] + [9] * many + [3])
            self.assertEqual(told, [1, 0 if 1 <= many <= 3 else -1, 1, 0, 1, -1, 1, 1])

    def test_sixty_calls(self):
        self.assertEqual(answers([0, 1, 0] + [3] * 59), [1, 0] + [1, 1] * 59)

    def test_whole_numbers_in_a_list(self):
        told = answers(LONG)
        self.assertIs(type(told), list)
        for number in told:
            self.assertIs(type(number), int)

    def test_what_is_handed_in_is_not_changed(self):
        handed = list(LONG)
        answers(handed)
        self.assertEqual(handed, LONG)

    def test_not_for_a_while_either(self):
        class Watched(list):
            def refuse(self, *args, **named):
                raise AssertionError("what is handed in was changed")

            append = extend = insert = pop = remove = clear = sort = reverse = refuse
            __setitem__ = __delitem__ = __iadd__ = __imul__ = refuse

        self.assertEqual(answers(Watched(LONG)), answers(list(LONG)))

    def test_twice_alike(self):
        told = answers(LONG)
        self.assertEqual(answers(LONG), told)
        self.assertIsNot(answers(LONG), told)

    def test_nothing_is_kept(self):
        answers(LONG)
        self.assertEqual(answers([3, 7, 2, 0, 0]), [1, -9, 1, -9, 1, -9])
        told = answers(LONG)
        told.clear()
        self.assertNotEqual(answers(LONG), [])
