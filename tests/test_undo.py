"""What's a change, and taking it back: undo and past, point 3 of the whole."""

import random
import unittest

from tests.helper import ask, ask_last, laid_out

PROBES = "told, gain, left, evengain, mean"


class Changes(unittest.TestCase):
    def test_each_change_is_counted_and_taken_back(self):
        line = laid_out((2, 1), 1, 1, 2)
        for change in ("play 0 0", "play 1 1", "day 0", "drop", "brings 1 3", "looks 0", "misdeeds 0", "fine 1",
                       "toeven", "toplans", "evenday 0 0"):
            found = ask(f"{line}, {PROBES}, {change}, past, undo, past, {PROBES}")
            self.assertEqual(found[9:12], [[3], [2], [2]], change)
            self.assertEqual(found[3:8], found[12:], change)

    def test_what_leaves_all_as_it_was_is_no_change(self):
        line = laid_out((2, 1), 1, 1, 2) + ", toeven, toplans"
        for call in ("brings 0 2", "looks 1", "misdeeds 1", "fine 2", "toeven", "toplans", "mean", "ifplayed 0 1",
                     "best", "gain", "past", "worth", "look", "dare", "from_day 0 0 0", "lookfrom 0 1 1",
                     "darefrom 0 1 1", "four", "caught", "brought", "ifbrings 0 0", "iflooks 0", "iffine 1",
                     "without 0", "firstday", "told", "evengain", "left"):
            found = ask(f"{line}, {call}, past, {PROBES}")
            self.assertGreaterEqual(found[5][0], 0, call)
            self.assertEqual(found[6], [4], call)

    def test_the_alike_season_laid_down_as_it_is_at_first(self):
        self.assertEqual(ask("begin 0 0 2, day 3, toeven, past, evenday 0 0, toeven, past")[2:],
                         [[1], [1], [0, 0], [1], [3]])
        for line in ("begin 1 0 2, day 3", "begin 0 1 2, day 3", "begin 0 0 2, day 3, fine 1",
                     "begin 0 0 2, day 3, day 3"):
            before, answered, behind = ask(line + ", past, toeven, past")[-3:]
            self.assertEqual(behind[0], before[0] + 1, line)

    def test_the_alike_season_laid_down_anew_behind_a_catch(self):
        self.assertEqual(ask("begin 1 1 2, day 3, toeven, evenday 1 1, toeven, past, toeven, past")[4:],
                         [[1], [4], [1], [4]])

    def test_the_table_laid_down_as_it_is_at_first(self):
        self.assertEqual(ask("begin 5 4 2, day 3, toplans, past, looks 0, toplans, past")[2:],
                         [[1], [1], [5], [1], [2]])
        for line in ("begin 0 1 2, day 3, misdeeds 2", "begin 0 0 2, day 3, fine 1", "begin 0 0 2, day 3, day 3"):
            before, answered, behind = ask(line + ", past, toplans, past")[-3:]
            self.assertEqual(behind[0], before[0] + 1, line)

    def test_the_table_is_taken_back(self):
        self.assertEqual(
            ask("begin 0 1 2, day 3, day 3, toplans, toplans, past, undo, past, toplans, past")[3:],
            [[2], [2], [3], [2], [2], [2], [3]],
        )

    def test_the_misdeeds_changed_later_are_not_the_table_s(self):
        self.assertEqual(ask_last("begin 0 1 2, day 3, misdeeds 2, misdeeds 1, toplans, past"), [3])

    def test_no_refusal_is_a_change(self):
        found = ask("begin 0 0 1, drop, day 4, brings 0 0, looks 6, misdeeds 6, fine 0, play 0 0, toeven, toplans, "
                    "evenday 1 0, evenday 2 0, undo, past, begin 6 0 0, past")
        self.assertEqual(found[-4:], [[-6], [0], [-22], [0]])

    def test_a_begin_leaves_nothing_to_take_back(self):
        self.assertEqual(ask("begin 0 0 1, day 1, begin 0 0 1, past, undo")[2:], [[0], [0], [-6]])

    def test_undo_is_no_change_itself(self):
        self.assertEqual(
            ask("begin 0 0 1, day 1, day 2, undo, told, undo, told, undo, told")[3:],
            [[1], [1, 0, 0, 1, 1], [0], [0, 0, 0, 1], [-6], [0, 0, 0, 1]],
        )

    def test_a_change_behind_one_taken_back(self):
        self.assertEqual(
            ask("begin 0 0 1, day 1, day 2, undo, day 3, past, undo, told, undo, told, past")[5:],
            [[2], [1], [1, 0, 0, 1, 1], [0], [0, 0, 0, 1], [0]],
        )

    def test_a_catch_taken_back(self):
        self.assertEqual(
            ask(laid_out((2, 1), 1, 1, 2) + ", mean, play 1 1, mean, undo, gain, told, mean, play 0 1, gain")[3:],
            [[0, 2, 5], [0, -2], [0, -2, 1], [2], [0, 0], [2, 1, 1, 2, 2, 1], [0, 2, 5], [0, 2], [0, 2]],
        )


class Twelve(unittest.TestCase):
    def test_twelve_changes_are_all_taken_back(self):
        changes = ", ".join(f"looks {number % 2 + 1}" for number in range(12))
        found = ask(f"begin 0 0 1, {changes}, past, " + "undo, " * 12 + "told, undo, past")
        self.assertEqual(found[13:], [[12]] + [[left] for left in range(11, -1, -1)] + [[0, 0, 0, 1], [-6], [0]])

    def test_of_thirteen_the_first_is_not(self):
        changes = ", ".join(f"looks {number % 2 + 1}" for number in range(13))
        found = ask(f"begin 0 0 1, {changes}, past, " + "undo, " * 12 + "told, undo, told, past")
        self.assertEqual(
            found[14:],
            [[12]] + [[left] for left in range(11, -1, -1)] + [[0, 1, 0, 1], [-6], [0, 1, 0, 1], [0]],
        )

    def test_one_that_is_no_change_pushes_nothing_out(self):
        changes = ", ".join(f"looks {number % 2 + 1}" for number in range(12))
        found = ask(f"begin 0 0 1, {changes}, looks 2, worth, looks 6, past, " + "undo, " * 12 + "told")
        self.assertEqual((found[16], found[-1]), ([12], [0, 0, 0, 1]))

    def test_taken_back_all_is_as_it_was(self):
        changes = ["play 0 0", "play 0 1", "play 1 0", "play 1 1", "day 1", "day 3", "drop", "brings 0 2", "looks 2",
                   "misdeeds 3", "fine 2", "fine 3", "toeven", "toplans", "evenday 0 1", "evenday 1 0", "evenday 1 1"]
        chosen = random.Random(1)
        for trial in range(200):
            line = laid_out((1, 2, 0), 2, 2, 1) + ", toeven"
            known = [ask(f"{line}, {PROBES}")[-5:]]
            for turn in range(12):
                longer = f"{line}, {chosen.choice(changes)}"
                if ask_last(longer + ", past") != ask_last(line + ", past"):
                    known.append(ask(f"{longer}, {PROBES}")[-5:])
                line = longer
                if ask_last(line + ", past") == [12]:
                    break
            while len(known) > 1:
                known.pop()
                line += ", undo"
                self.assertEqual(ask(f"{line}, {PROBES}")[-5:], known[-1], line)


if __name__ == "__main__":
    unittest.main()
