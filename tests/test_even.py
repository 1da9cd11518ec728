"""The alike season's day, gain and left: point 1 of "When to look"."""

import unittest

from tests.helper import ask, laid_out

MADE_ALIKE = laid_out((3, 2, 1), 2, 2, 3) + ", toeven"


class AlikeDays(unittest.TestCase):
    def test_at_first_one_day_with_nothing_to_do(self):
        self.assertEqual(
            ask("begin 5 5 2, left, evengain, evenday 1 0, evenday 0 1, evenday 0 0, left, evengain, evenday 0 0"),
            [[0], [1, 0, 0, 2], [0, 0], [-33], [-33], [0, 0], [0, 0, 0, 2], [0, 0], [-6]],
        )

    def test_a_misdeed_unseen_brings_one_whatever_the_season_s_day_brings(self):
        self.assertEqual(
            ask(MADE_ALIKE + ", evenday 0 1, left, evengain, evenday 1 0, left, evenday 0 1, left, evengain, "
                "told, gain")[5:],
            [[0, 1], [2, 2, 1, 3], [0, 1], [0, 1], [1, 1, 1, 3], [0, 2], [0, 1, 0, 3], [0, 2],
             [3, 2, 2, 3, 3, 2, 1], [0, 0]],
        )

    def test_caught_with_days_to_come_there_are_none(self):
        self.assertEqual(
            ask(MADE_ALIKE + ", evenday 0 1, evenday 1 1, left, evengain, evenday 0 0, evenday 2 2")[5:],
            [[0, 1], [0, -2], [0, 1, 0, 3], [1, -2], [-6], [-6]],
        )

    def test_more_left_than_days(self):
        self.assertEqual(ask(MADE_ALIKE + ", evenday 0 0, evenday 0 0, left")[-1], [1, 2, 2, 3])

    def test_refused_in_order_and_nothing_changed(self):
        none_left = "begin 0 0 1, day 1, toeven"
        over = "begin 0 0 1, evenday 0 0"
        looks_only = "begin 1 0 1, day 1, toeven"
        misdeeds_only = "begin 0 1 1, day 1, toeven"
        for line, arguments, refusal in (
            (over, "0 0", -6), (over, "2 0", -6), (over, "1 1", -6), (over, "4294967295 4294967295", -6),
            (none_left, "2 1", -22), (none_left, "1 2", -22), (none_left, "0 4294967295", -22),
            (none_left, "4294967295 0", -22), (MADE_ALIKE, "2 0", -22), (MADE_ALIKE, "0 2", -22),
            (none_left, "1 0", -33), (none_left, "0 1", -33), (looks_only, "0 1", -33), (looks_only, "1 1", -33),
            (misdeeds_only, "1 0", -33), (misdeeds_only, "1 1", -33),
        ):
            found = ask(f"{line}, left, evengain, past, evenday {arguments}, left, evengain, past")
            self.assertEqual(found[-4], [refusal], (line, arguments))
            self.assertEqual(found[-7:-4], found[-3:])


if __name__ == "__main__":
    unittest.main()
