"""How a line is handed in, and what is given back."""

import unittest

from inspector.season import answers
from tests.helper import laid_out, written

LINE = written(laid_out((3, 1, 2), 1, 2, 2) + ", told, toeven, toplans, best, four, play 0 1, mean, brings 0 3, "
               "ifbrings 1 0, without 0, caught, brought, evenday 0 1, left, evenworth, evenlook, evendare, done, "
               "looked 1, spare 1, finefor 7, plan 5 3, plan 0 2, plan 5 1, weight 1 9, dropplan 2, reply, daresnow, "
               "seen 1 1 2, over, plansdone, plans, undo, undo, fair 1, plans, past, told, play 7 7, plan 8 1")


class Interface(unittest.TestCase):
    def test_how_many_then_these(self):
        self.assertEqual(
            answers([9, 0, 1, 1, 2, 10, 2, 10, 1, 4, 1, 2, 0, 30]),
            [1, -11, 1, 0, 1, 0, 1, 1, 5, 0, 2, 5, 1, 5, 1, -22, 6, 2, 1, 1, 2, 2, 1],
        )

    def test_the_numbers_of_the_calls(self):
        self.assertEqual(
            answers([0, 1, 1, 2, 10, 2, 10, 1, 31, 0, 0, 32, 33, 6, 33, 7, 8, 9, 15, 3, 27, 1, 29, 21, 0, 0, 1]),
            [1, 0, 1, 0, 1, 1, 2, 0, 0, 2, 0, 0, 4, 0, 0, 0, 2, 1, 2, 4, 2, 1, 1, 2, 1, 2, 1, 4, 1, 4,
             1, 2, 3, 0, 1, 2, 1, 0, 3, 0, 1, 1],
        )

    def test_the_numbers_of_the_alike_season_s_calls(self):
        laid = [0, 1, 1, 2, 10, 3, 10, 0, 6]
        self.assertEqual(
            answers(laid + [33, 34, 35, 36, 37, 3, 1, 2, 38, 9, 39, 10, 40, 50])[len(answers(laid)):],
            [4, 2, 1, 1, 2, 3, 0, 1, 4, 3, 0, 1, 4, 3, 0, 1, 4, 3, 0, 3, 5, 3, 0, 1, 11, 3, 0, 7, 10, 3, 0, -1, 2],
        )
        self.assertEqual(
            answers(laid + [41, 42, 43, 1, 44, 0, 45, 4, 46, 4, 46, 101, 31, 1, 1, 34, 35])[len(answers(laid)):],
            [3, 0, 1, 16, 3, 0, 3, 8, 3, 0, 1, 4, 3, 0, 1, 2, 1, 2, 1, 3, 1, -33, 2, 0, -2, 3, 0, 0, 1, 1, -6],
        )

    def test_the_numbers_of_the_table_s_calls(self):
        laid = [0, 1, 1, 2, 10, 3, 10, 0, 7]
        self.assertEqual(
            answers(laid + [47, 1, 1, 47, 2, 1, 47, 3, 9, 48, 2, 49, 0, 2, 49, 0, 1, 50, 2, 50, 1, 51, 9, 51, 1, 66])
            [len(answers(laid)):],
            [1, 0, 1, 1, 1, 2, 1, 2, 1, 1, 1, 2, 1, 1, 1, 2, 1, 2, 1, 9, 8, 2, 1, 1, 2, 1, 1, 2, 1],
        )
        laid = laid + [51, 1, 47, 1, 1, 47, 2, 1]
        self.assertEqual(
            answers(laid + [53, 54, 55, 1, 1, 1, 56, 1, 57, 58, 59, 1, 60, 61, 1, 2, 62, 2, 63, 64, 65, 52, 1, 66])
            [len(answers(laid)):],
            [3, 0, 1, 2, 1, 0, 3, 0, 1, 1, 3, 0, 1, 2, 3, 0, 1, 1, 1, 1, 3, 0, 1, 3, 3, 0, 1, 6, 3, 0, 1, 3, 3, 0, 1, 2,
             3, 0, 0, 1, 3, 0, 1, 2, 3, 0, 0, 1, 1, 3, 10, 2, 1, 1, 3, 0, 1, 1, 1, 2, 1],
        )

    def test_what_is_handed_in_is_not_changed(self):
        handed_in = list(LINE)
        answers(handed_in)
        self.assertEqual(handed_in, LINE)

    def test_the_same_line_twice_is_answered_the_same(self):
        first = answers(LINE)
        answers([0, 5, 5, 3, 10, 3, 13, 1, 9])
        self.assertEqual(answers(LINE), first)

    def test_each_time_the_object_is_new(self):
        self.assertEqual(answers([0, 0, 0, 1, 10, 1]), [1, 0, 1, 0])
        self.assertEqual(answers([30]), [1, -11])

    def test_the_kinds(self):
        found = answers(LINE)
        self.assertIs(type(found), list)
        self.assertEqual({type(number) for number in found}, {int})

    def test_a_line_of_eighty_calls(self):
        laid = [0, 2, 2, 1] + [10, 1, 10, 1, 10, 1]
        once = answers(laid + [23])[len(answers(laid)):]
        self.assertEqual(len(once), 4)
        self.assertEqual(answers(laid + [23] * 76), answers(laid) + once * 76)


if __name__ == "__main__":
    unittest.main()
