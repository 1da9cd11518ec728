"""The calls begin, play, gain, mean, ifplayed, best, toeven and toplans: points 1 to 3 of the whole."""

import unittest

from tests.helper import COUNTS, NAMES, ask, ask_last, laid_out


class Beginning(unittest.TestCase):
    def test_before_a_begin_all_else_is_refused(self):
        for name, count in zip(NAMES[1:], COUNTS[1:]):
            for number in ("0", "4294967295"):
                call = " ".join([name] + [number] * count)
                self.assertEqual(ask(call), [[-11]])
                self.assertEqual(ask(f"begin 6 0 1, {call}, begin 1 1 1, told"), [[-22], [-11], [0], [0, 1, 1, 1]])

    def test_bounds(self):
        for numbers in ("6 0 1", "0 6 1", "0 0 0", "0 0 4", "4294967295 0 1", "0 4294967295 1", "0 0 4294967295"):
            self.assertEqual(ask(f"begin {numbers}, told"), [[-22], [-11]])
        for numbers in ("0 0 1", "5 5 3", "5 0 2"):
            expected = [0] + [int(number) for number in numbers.split()]
            self.assertEqual(ask(f"begin {numbers}, told"), [[0], expected])

    def test_all_as_at_first(self):
        self.assertEqual(
            ask("begin 2 3 2, told, gain, mean, left, evengain, past, best"),
            [[0], [0, 2, 3, 2], [0, 0], [0, 0, 1], [1, 0, 0, 2], [0, 0], [0], [-6]],
        )

    def test_again_in_the_middle_all_is_new(self):
        self.assertEqual(
            ask("begin 2 2 2, day 3, day 1, toeven, play 1 1, evenday 0 1, begin 1 0 3, "
                "told, gain, left, evengain, past, undo, mean")[6:],
            [[0], [0, 1, 0, 3], [0, 0], [1, 0, 0, 3], [0, 0], [0], [-6], [0, 0, 1]],
        )

    def test_refused_in_the_middle_all_stays(self):
        self.assertEqual(
            ask("begin 2 2 2, day 3, day 1, toeven, play 1 1, evenday 0 1, begin 1 0 4, "
                "told, gain, left, evengain, past, undo")[6:],
            [[-22], [1, 1, 1, 2, 1], [1, -2], [1, 2, 1, 2], [0, 1], [5], [4]],
        )


class Playing(unittest.TestCase):
    def test_neither(self):
        self.assertEqual(ask(laid_out((3, 2), 1, 1, 2) + ", play 0 0, told, gain")[3:],
                         [[0, 0], [1, 1, 1, 2, 2], [0, 0]])

    def test_looked_at(self):
        self.assertEqual(ask(laid_out((3, 2), 1, 1, 2) + ", play 1 0, told, gain")[3:],
                         [[0, 0], [1, 0, 1, 2, 2], [0, 0]])

    def test_dared(self):
        self.assertEqual(ask(laid_out((3, 2), 1, 1, 2) + ", play 0 1, told, gain")[3:],
                         [[0, 3], [1, 1, 0, 2, 2], [0, 3]])

    def test_caught_with_days_to_come(self):
        self.assertEqual(
            ask(laid_out((3, 2), 2, 2, 2) + ", play 1 1, told, gain, mean, play 0 0, ifplayed 0 0, best, toeven, "
                "toplans, worth, look, dare, caught, brought, four, firstday, from_day 0 0 1")[3:],
            [[0, -2], [1, 1, 1, 2, 2], [1, -2], [0, -2, 1], [-6], [-6], [-6], [-33], [-33],
             [0, 0, 1], [0, 1, 2], [0, 0, 1], [0, 0, 1], [0, 0, 1], [0, -2, 1, 0, 1, 2, 1, 0, 1], [-33], [0, 2, 1]],
        )

    def test_caught_the_season_s_own_calls_go_on(self):
        self.assertEqual(
            ask(laid_out((1, 2, 1), 2, 2, 2) + ", play 1 1, worth, mean, day 3, looks 0, worth, mean, "
                "drop, brings 0 3, fine 1, mean, gain")[4:],
            [[0, -2], [0, 2, 5], [0, -2, 1], [2], [1], [0, 3, 1], [0, -2, 1], [2], [2], [2], [0, -2, 1], [1, -2]],
        )

    def test_caught_on_the_last_day(self):
        self.assertEqual(
            ask(laid_out((3,), 1, 1, 3) + ", play 1 1, gain, mean, told, day 2, play 0 0, gain")[2:],
            [[0, -3], [1, -3], [0, -3, 1], [0, 0, 0, 3], [0], [-6], [1, -3]],
        )

    def test_played_to_the_end(self):
        self.assertEqual(
            ask(laid_out((2, 0, 3, 1), 2, 3, 1) + ", play 0 1, play 1 0, play 0 1, play 1 0, play 0 0, gain, mean, "
                "told")[5:],
            [[0, 2], [0, 2], [0, 5], [0, 5], [-6], [0, 5], [0, 5, 1], [0, 0, 1, 1]],
        )

    def test_gained_before_the_fine_falls(self):
        self.assertEqual(
            ask(laid_out((3, 3, 1), 1, 3, 2) + ", play 0 1, play 0 1, play 1 1, gain")[4:],
            [[0, 3], [0, 6], [0, 4], [1, 4]],
        )

    def test_the_fine_of_the_day_it_falls_on(self):
        self.assertEqual(ask(laid_out((3, 3), 1, 3, 1) + ", play 0 1, fine 3, play 1 1")[3:], [[0, 3], [1], [0, 0]])

    def test_a_day_put_on_behind_while_playing(self):
        self.assertEqual(
            ask(laid_out((1, 1, 1, 1), 0, 2, 1) + ", day 3, play 0 1, day 3, told, mean, play 0 0, play 0 0, play 0 0, "
                "play 0 1, gain, day 0, told")[5:],
            [[-28], [0, 1], [3], [4, 0, 1, 1, 1, 1, 1, 3], [0, 4, 1], [0, 1], [0, 1], [0, 1], [0, 4], [0, 4],
             [0], [1, 0, 0, 1, 0]],
        )

    def test_looks_and_misdeeds_changed_in_the_middle(self):
        self.assertEqual(
            ask(laid_out((1, 2, 1), 0, 1, 2) + ", play 0 1, mean, play 0 1, misdeeds 1, looks 1, mean, best, play 1 0, "
                "mean, looks 1, mean")[4:],
            [[0, 1], [0, 1, 1], [-33], [0], [0], [0, 7, 5], [0, 2, 5, 1, 5], [0, 1], [0, 2, 1], [0], [0, 1, 1]],
        )


class Refused(unittest.TestCase):
    def assert_refused(self, line, arguments, refusal):
        for name in ("play", "ifplayed"):
            found = ask(f"{line}, told, gain, past, {name} {arguments}, told, gain, past")
            self.assertEqual(found[-4], [refusal], (line, name, arguments))
            self.assertEqual(found[-7:-4], found[-3:])

    def test_no_days_comes_first(self):
        for arguments in ("0 0", "1 1", "2 0", "4294967295 4294967295"):
            self.assert_refused("begin 0 0 1", arguments, -6)

    def test_caught_comes_first(self):
        for arguments in ("0 0", "1 1", "2 0", "4294967295 4294967295"):
            self.assert_refused("begin 1 1 1, day 1, day 1, play 1 1", arguments, -6)

    def test_above_one_comes_second(self):
        for arguments in ("2 0", "0 2", "1 2", "2 1", "4294967295 0", "0 4294967295"):
            self.assert_refused("begin 0 0 1, day 1", arguments, -22)
            self.assert_refused("begin 5 5 1, day 1", arguments, -22)

    def test_none_left_comes_last(self):
        for arguments in ("1 0", "0 1", "1 1"):
            self.assert_refused("begin 0 0 1, day 1", arguments, -33)
        self.assert_refused("begin 0 1 1, day 1", "1 0", -33)
        self.assert_refused("begin 0 1 1, day 1", "1 1", -33)
        self.assert_refused("begin 1 0 1, day 1", "0 1", -33)
        self.assert_refused("begin 1 0 1, day 1", "1 1", -33)

    def test_best_without_days_and_caught(self):
        self.assertEqual(ask_last("begin 1 1 1, best"), [-6])
        self.assertEqual(ask_last("begin 1 1 1, day 1, day 1, play 1 1, best"), [-6])


class Means(unittest.TestCase):
    def test_the_mean_on_the_way(self):
        self.assertEqual(
            ask(laid_out((3, 2, 1), 1, 2, 2) + ", play 0 1, mean, ifplayed 0 0, ifplayed 0 1, ifplayed 1 0, "
                "ifplayed 1 1, best, told, past, play 1 0, mean, play 0 1, mean")[4:],
            [[0, 3], [0, 17, 5], [0, 3, 1], [0, 5, 1], [0, 4, 1], [0, 1, 1], [0, 2, 5, 1, 5], [2, 1, 1, 2, 2, 1], [4],
             [0, 3], [0, 4, 1], [0, 4], [0, 4, 1]],
        )

    def test_below_nothing(self):
        self.assertEqual(
            ask(laid_out((1, 1), 1, 1, 2) + ", ifplayed 1 1, play 1 1, mean, gain")[3:],
            [[0, -2, 1], [0, -2], [0, -2, 1], [1, -2]],
        )

    def test_ifplayed_is_the_mean_behind_that(self):
        for line in (laid_out((2, 1, 3), 2, 2, 1), laid_out((0, 1, 2, 3), 2, 3, 3), laid_out((3,), 1, 1, 2)):
            for arguments in ("0 0", "0 1", "1 0", "1 1"):
                before = ask_last(f"{line}, ifplayed {arguments}")
                self.assertEqual(before, ask_last(f"{line}, play {arguments}, mean"))

    def test_best_is_looking_then_daring(self):
        self.assertEqual(ask_last(laid_out((1, 1), 1, 1, 1) + ", best"), [0, 1, 3, 1, 3])
        self.assertEqual(ask_last(laid_out((3, 1), 1, 1, 1) + ", best"), [0, 3, 5, 1, 5])
        self.assertEqual(ask_last(laid_out((3, 1), 0, 1, 1) + ", best"), [0, 0, 1, 1, 1])


class Beside(unittest.TestCase):
    def test_toeven_lays_the_alike_season_anew(self):
        self.assertEqual(
            ask(laid_out((3, 0, 2), 1, 2, 3) + ", toeven, left, evengain, evenday 1 1, left, evengain, toeven, left, "
                "evengain, told")[4:],
            [[3], [3, 1, 2, 3], [0, 0], [0, -3], [0, 0, 1, 3], [1, -3], [3], [3, 1, 2, 3], [0, 0],
             [3, 1, 2, 3, 3, 0, 2]],
        )

    def test_toeven_refused(self):
        for line in (
            "begin 0 0 1",
            "begin 1 1 1, day 1, play 0 0",
            laid_out((1, 1), 3, 0, 1),
            laid_out((1, 1), 0, 3, 1),
            laid_out((1, 1, 1, 1), 5, 5, 1),
            laid_out((1, 1, 1), 1, 1, 1) + ", play 1 1",
        ):
            found = ask(f"{line}, evenday 0 0, left, past, toeven, left, past")
            self.assertEqual(found[-3], [-33], line)
            self.assertEqual(found[-5:-3], found[-2:], line)

    def test_toeven_with_as_many_as_days(self):
        self.assertEqual(ask(laid_out((1, 1), 2, 2, 1) + ", toeven, left")[3:], [[2], [2, 2, 2, 1]])

    def test_the_season_goes_on_without_the_alike_one(self):
        self.assertEqual(
            ask(laid_out((1, 1), 1, 1, 1) + ", toeven, play 0 1, fine 3, looks 0, left, evengain, evenday 1 0, "
                "told")[3:],
            [[2], [0, 1], [1], [1], [2, 1, 1, 1], [0, 0], [0, 0], [1, 0, 0, 3, 1]],
        )

    def test_toplans(self):
        self.assertEqual(ask(laid_out((1, 3, 1), 5, 5, 1) + ", toplans, play 0 0, toplans")[4:], [[3], [0, 0], [2]])
        for line in ("begin 0 0 1", "begin 1 1 1, day 1, play 0 0", laid_out((1, 1), 1, 1, 1) + ", play 1 1"):
            found = ask(f"{line}, past, toplans, past")
            self.assertEqual(found[-2], [-33])
            self.assertEqual(found[-3], found[-1])


if __name__ == "__main__":
    unittest.main()
