"""How a line is handed in, and what is given back."""

import unittest

from inspector.season import answers
from tests.helper import laid_out, written

LINE = written(laid_out((3, 1, 2), 1, 2, 2) + ", told, toeven, toplans, best, four, play 0 1, mean, brings 0 3, "
               "ifbrings 1 0, without 0, caught, brought, evenday 0 1, left, undo, undo, past, told, play 7 7")


class Interface(unittest.TestCase):
    def test_how_many_then_these(self):
        self.assertEqual(
            answers([9, 0, 1, 1, 2, 10, 2, 10, 1, 4, 1, 2, 0, 30]),
            [1, -11, 1, 0, 1, 0, 1, 1, 5, 0, 2, 5, 1, 5, 1, -22, 6, 2, 1, 1, 2, 2, 1],
        )

    def test_the_numbers_of_the_calls(self):
        self.assertEqual(
            answers([0, 1, 1, 2, 10, 2, 10, 1, 31, 0, 0, 32, 33, 6, 33, 7, 8, 9, 15, 3, 27, 1, 29, 21, 0, 0, 1]),
            [1, 0, 1, 0, 1, 1, 2, 0, 0, 2, 0, 0, 4, 0, 0, 0, 2, 1, 2, 4, 2, 1, 1, 2, 1, 2, 1, 4, 1, 4,
             1, 2, 3, 0, 1, 2, 1, 0, 3, 0, 1, 1],
        )

    def test_what_is_handed_in_is_not_changed(self):
        handed_in = list(LINE)
        answers(handed_in)
        self.assertEqual(handed_in, LINE)

    def test_the_same_line_twice_is_answered_the_same(self):
        first = answers(LINE)
        answers([0, 5, 5, 3, 10, 3, 13, 1, 9])
        self.assertEqual(answers(LINE), first)

    def test_each_time_the_object_is_new(self):
        self.assertEqual(answers([0, 0, 0, 1, 10, 1]), [1, 0, 1, 0])
        self.assertEqual(answers([30]), [1, -11])

    def test_the_kinds(self):
        found = answers(LINE)
        self.assertIs(type(found), list)
        self.assertEqual({type(number) for number in found}, {int})

    def test_a_line_of_eighty_calls(self):
        laid = [0, 2, 2, 1] + [10, 1, 10, 1, 10, 1]
        once = answers(laid + [23])[len(answers(laid)):]
        self.assertEqual(len(once), 4)
        self.assertEqual(answers(laid + [23] * 76), answers(laid) + once * 76)


if __name__ == "__main__":
    unittest.main()
