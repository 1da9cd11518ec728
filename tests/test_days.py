"""The calls of "Days that aren't alike", points 1 to 4, on ordinary seasons and at their corners."""

import unittest

from tests.helper import ask, ask_last, laid_out


class LayingOut(unittest.TestCase):
    def test_days_are_put_on_behind_and_dropped_from_behind(self):
        self.assertEqual(
            ask("begin 2 1 3, day 3, day 0, told, day 2, told, drop, told, drop, drop, told, drop"),
            [[0], [0], [1], [2, 2, 1, 3, 3, 0], [2], [3, 2, 1, 3, 3, 0, 2], [2], [2, 2, 1, 3, 3, 0],
             [1], [0], [0, 2, 1, 3], [-6]],
        )

    def test_four_days_at_most(self):
        self.assertEqual(
            ask("begin 0 0 1, day 0, day 1, day 2, day 3, day 3, day 4, told, drop, day 3, told")[5:],
            [[-28], [-22], [4, 0, 0, 1, 0, 1, 2, 3], [3], [3], [4, 0, 0, 1, 0, 1, 2, 3]],
        )

    def test_brings_tells_what_it_was(self):
        self.assertEqual(
            ask("begin 1 1 1, day 2, day 1, brings 0 3, brings 0 0, brings 1 3, told")[3:],
            [[2], [3], [1], [2, 1, 1, 1, 0, 3]],
        )

    def test_looks_misdeeds_and_fine_tell_what_they_were(self):
        self.assertEqual(
            ask("begin 1 2 3, looks 5, looks 0, misdeeds 5, misdeeds 0, fine 1, fine 3, fine 2, told"),
            [[0], [1], [5], [2], [5], [3], [1], [3], [0, 0, 0, 2]],
        )


class Reckoning(unittest.TestCase):
    def test_two_days_the_first_of_which_brings_more(self):
        # Today's four: -2, 1, 2, 0; so looking is 2 of 5, daring 1 of 5.
        line = laid_out((2, 1), 1, 1, 2)
        self.assertEqual(
            ask(line + ", worth, look, dare, four, best, caught, brought, firstday")[3:],
            [[0, 2, 5], [0, 2, 5], [0, 1, 5], [0, -2, 1, 1, 1, 2, 1, 0, 1], [0, 2, 5, 1, 5],
             [0, 2, 25], [0, 14, 25], [0]],
        )

    def test_from_a_later_day_with_other_numbers(self):
        line = laid_out((3, 2, 1), 0, 0, 2)
        self.assertEqual(
            ask(line + ", from_day 1 1 1, lookfrom 1 1 1, darefrom 1 1 1, from_day 2 1 1, lookfrom 2 1 1, "
                "darefrom 2 1 1, from_day 1 0 2, lookfrom 1 0 2, darefrom 1 0 2, from_day 0 5 0, from_day 2 0 5")[4:],
            [[0, 2, 5], [0, 2, 5], [0, 1, 5], [0, 0, 1], [0, 1, 3], [0, 0, 1], [0, 3, 1], [0, 0, 1], [0, 1, 1],
             [0, 0, 1], [0, 1, 1]],
        )

    def test_from_asks_nothing_of_the_season_s_own_looks_and_misdeeds(self):
        questions = ", from_day 0 1 1, lookfrom 0 1 1, darefrom 0 1 1"
        first = ask(laid_out((2, 1), 0, 0, 2) + questions)[3:]
        self.assertEqual(first, [[0, 2, 5], [0, 2, 5], [0, 1, 5]])
        self.assertEqual(ask(laid_out((2, 1), 5, 5, 2) + questions)[3:], first)

    def test_suppositions_change_nothing(self):
        line = laid_out((2, 1), 1, 1, 2)
        self.assertEqual(
            ask(line + ", ifbrings 0 1, ifbrings 1 3, iflooks 0, iflooks 2, iffine 1, iffine 3, without 0, without 1, "
                "worth, told, past")[3:],
            [[0, 1, 4], [0, 6, 7], [0, 2, 1], [0, 0, 1], [0, 1, 2], [0, 1, 3], [0, 0, 1], [0, 0, 1],
             [0, 2, 5], [2, 1, 1, 2, 2, 1], [2]],
        )

    def test_without_a_day_in_the_middle(self):
        line = laid_out((2, 3, 1), 1, 1, 2)
        self.assertEqual(ask_last(line + ", without 1"), [0, 2, 5])

    def test_if_it_brings_what_it_brings_it_is_worth_the_same(self):
        line = laid_out((3, 1, 2), 2, 1, 3)
        worth = ask_last(line + ", worth")
        for question in ("ifbrings 1 1", "iflooks 2", "iffine 3"):
            self.assertEqual(ask_last(f"{line}, {question}"), worth)

    def test_three_days_two_misdeeds(self):
        # Two such days are worth 1/3 with the look, be it for one misdeed or two, and 2 without it.
        line = laid_out((1, 1, 1), 1, 2, 1)
        self.assertEqual(ask(line + ", four, worth, look, dare")[4:],
                         [[0, -1, 1, 2, 1, 4, 3, 1, 3], [0, 3, 4], [0, 1, 4], [0, 5, 12]])


class Corners(unittest.TestCase):
    def test_no_days(self):
        self.assertEqual(
            ask("begin 2 2 2, worth, caught, brought, iflooks 0, iffine 3, firstday, told, look, dare, four"),
            [[0], [0, 0, 1], [0, 0, 1], [0, 0, 1], [0, 0, 1], [0, 0, 1], [-33], [0, 2, 2, 2], [-6], [-6], [-6]],
        )

    def test_one_day_with_a_look_is_looked_at_so_that_nobody_dares(self):
        self.assertEqual(
            ask("begin 1 1 3, day 2, worth, look, dare, four, caught, brought, firstday, without 0")[2:],
            [[0, 0, 1], [0, 2, 5], [0, 0, 1], [0, -3, 1, 0, 1, 2, 1, 0, 1], [0, 0, 1], [0, 0, 1], [-33], [0, 0, 1]],
        )

    def test_no_looks(self):
        line = laid_out((1, 3, 2), 0, 2, 1)
        self.assertEqual(
            ask(line + ", worth, look, dare, caught, brought, firstday, four, best")[4:],
            [[0, 5, 1], [0, 0, 1], [0, 0, 1], [0, 0, 1], [0, 5, 1], [1], [-6], [0, 0, 1, 0, 1]],
        )

    def test_no_looks_and_the_greatest_day_first(self):
        line = laid_out((3, 1, 2), 0, 2, 1)
        self.assertEqual(
            ask(line + ", look, dare, firstday, brought")[4:],
            [[0, 0, 1], [0, 1, 1], [0], [0, 5, 1]],
        )

    def test_no_misdeeds(self):
        line = laid_out((3, 3), 1, 0, 1)
        self.assertEqual(
            ask(line + ", worth, look, dare, caught, brought, firstday, four, lookfrom 1 1 0, darefrom 1 0 0")[3:],
            [[0, 0, 1], [0, 0, 1], [0, 0, 1], [0, 0, 1], [0, 0, 1], [-33], [-6], [0, 0, 1], [0, 0, 1]],
        )

    def test_more_looks_and_misdeeds_than_days(self):
        line = laid_out((3, 1), 5, 5, 2)
        self.assertEqual(
            ask(line + ", worth, look, dare, four, firstday")[3:],
            [[0, 0, 1], [0, 3, 5], [0, 0, 1], [0, -2, 1, 0, 1, 3, 1, 0, 1], [-33]],
        )
        self.assertEqual(ask(laid_out((3, 1), 0, 5, 2) + ", worth, dare")[3:], [[0, 4, 1], [0, 1, 1]])

    def test_all_days_alike(self):
        # One look for n days, one misdeed, a fine of 1: a chance of 1 of n + 1 for each day, and for none.
        for length in (1, 2, 3, 4):
            line = laid_out((1,) * length, 1, 1, 1)
            self.assertEqual(ask_last(line + ", look"), [0, 1, length + 1])
        self.assertEqual(ask_last(laid_out((1,) * 2, 1, 1, 1) + ", worth"), [0, 1, 3])
        self.assertEqual(ask_last(laid_out((1,) * 3, 1, 1, 1) + ", worth"), [0, 1, 2])
        self.assertEqual(ask_last(laid_out((1,) * 4, 1, 1, 1) + ", worth"), [0, 3, 5])

    def test_a_day_that_brings_nothing_might_as_well_not_be(self):
        worth = ask_last(laid_out((2, 1), 1, 1, 2) + ", worth")
        self.assertEqual(worth, [0, 2, 5])
        for days in ((0, 2, 1), (2, 0, 1), (2, 1, 0), (0, 2, 1, 0)):
            self.assertEqual(ask_last(laid_out(days, 1, 1, 2) + ", worth"), worth)

    def test_a_day_that_brings_nothing_first_is_neither_looked_at_nor_dared(self):
        self.assertEqual(
            ask(laid_out((0, 2, 1), 1, 1, 2) + ", look, dare, firstday, four")[4:],
            [[0, 0, 1], [0, 0, 1], [1], [0, -2, 1, 2, 1, 0, 1, 2, 5]],
        )

    def test_one_day_that_brings_all(self):
        line = laid_out((0, 3, 0), 1, 1, 1)
        self.assertEqual(ask(line + ", worth, lookfrom 1 1 1, darefrom 1 1 1, firstday")[4:],
                         [[0, 0, 1], [0, 3, 4], [0, 0, 1], [-33]])

    def test_to_dare_unlooked_gets_as_much_as_neither(self):
        # With a misdeed for each day, one that brings nothing is as good done as not: 0, 0, and not 1.
        self.assertEqual(
            ask(laid_out((0, 1), 1, 2, 1) + ", four, look, dare, worth")[3:],
            [[0, -1, 1, 1, 1, 0, 1, 0, 1], [0, 0, 1], [0, 0, 1], [0, 0, 1]],
        )
        self.assertEqual(ask(laid_out((2, 2), 0, 1, 1) + ", dare, firstday, worth")[3:], [[0, 0, 1], [1], [0, 2, 1]])

    def test_to_dare_unlooked_gets_less_than_neither(self):
        self.assertEqual(
            ask(laid_out((0, 3, 3), 1, 1, 1) + ", four, best, worth, firstday")[4:],
            [[0, -1, 1, 3, 1, 0, 1, 9, 7], [0, 0, 1, 0, 1], [0, 9, 7], [1]],
        )

    def test_a_greater_fine(self):
        line = laid_out((1, 1), 1, 1, 3)
        self.assertEqual(ask(line + ", worth, look, dare, iffine 1, iffine 2")[3:],
                         [[0, 1, 5], [0, 1, 5], [0, 1, 5], [0, 1, 3], [0, 1, 4]])


class Refused(unittest.TestCase):
    def assert_refused(self, line, refused):
        """Each call of the line is refused so, and all stays as it was."""
        for question, refusal in refused:
            probes = "told, gain, left, evengain, past"
            found = ask(f"{line}, {probes}, {question}, {probes}")
            self.assertEqual(found[-6], [refusal], question)
            self.assertEqual(found[-5:], found[-11:-6], question)

    def test_bounds(self):
        self.assert_refused(laid_out((2, 1), 1, 1, 2), [
            ("day 4", -22), ("day 4294967295", -22),
            ("brings 0 4", -22), ("brings 1 4294967295", -22),
            ("looks 6", -22), ("looks 4294967295", -22),
            ("misdeeds 6", -22), ("misdeeds 4294967295", -22),
            ("fine 0", -22), ("fine 4", -22), ("fine 4294967295", -22),
            ("from_day 0 6 0", -22), ("from_day 0 0 6", -22), ("from_day 1 4294967295 4294967295", -22),
            ("lookfrom 0 6 0", -22), ("lookfrom 0 0 6", -22), ("lookfrom 1 4294967295 0", -22),
            ("darefrom 0 6 0", -22), ("darefrom 0 0 6", -22), ("darefrom 1 0 4294967295", -22),
            ("ifbrings 0 4", -22), ("ifbrings 1 4294967295", -22),
            ("iflooks 6", -22), ("iflooks 4294967295", -22),
            ("iffine 0", -22), ("iffine 4", -22), ("iffine 4294967295", -22),
        ])

    def test_no_such_day_is_said_first(self):
        self.assert_refused(laid_out((2, 1), 1, 1, 2), [
            ("brings 2 0", -2), ("brings 2 4", -2), ("brings 4294967295 4294967295", -2),
            ("from_day 2 0 0", -2), ("from_day 2 6 6", -2), ("from_day 4294967295 0 0", -2),
            ("lookfrom 2 0 0", -2), ("lookfrom 2 6 6", -2), ("darefrom 2 0 0", -2), ("darefrom 2 6 6", -2),
            ("ifbrings 2 0", -2), ("ifbrings 2 4", -2), ("without 2", -2), ("without 4294967295", -2),
        ])
        self.assert_refused("begin 1 1 1", [
            ("brings 0 0", -2), ("from_day 0 0 0", -2), ("lookfrom 0 0 0", -2), ("darefrom 0 0 0", -2),
            ("ifbrings 0 0", -2), ("without 0", -2),
        ])

    def test_nothing_there(self):
        self.assert_refused("begin 1 1 1", [("drop", -6), ("look", -6), ("dare", -6), ("four", -6)])
        self.assert_refused(laid_out((1,), 0, 1, 1), [("four", -6)])
        self.assert_refused(laid_out((1,), 1, 0, 1), [("four", -6)])

    def test_four_days_already(self):
        self.assert_refused(laid_out((1, 1, 1, 1), 1, 1, 1), [("day 3", -28), ("day 4", -22)])

    def test_no_first_day(self):
        self.assert_refused(laid_out((3,), 1, 1, 1), [("firstday", -33)])


if __name__ == "__main__":
    unittest.main()
