"""What's a change, and taking it back: undo and past, point 3 of the whole."""

import random
import unittest

from tests.helper import ask, ask_last, laid_out, last_of

PROBES = ("told", "gain", "mean", "left", "evengain", "evenworth", "plans", "worthlooks 1")


class Changes(unittest.TestCase):
    def test_each_change_is_counted_and_taken_back(self):
        line = laid_out((2, 1), 1, 1, 2) + ", plan 1 5, plan 0 2"
        for change in ("play 0 0", "play 1 1", "day 0", "drop", "brings 1 3", "looks 0", "misdeeds 0", "fine 1",
                       "toeven", "toplans", "evenday 0 0", "plan 1 5", "dropplan 0", "dropplan 1", "weight 0 6",
                       "weight 1 1", "planmisdeeds 6", "planfine 9", "fair 0", "fair 1"):
            found = last_of(line, (change, "past", "undo", "past"))
            self.assertEqual(found[1:], [[5], [4], [4]], change)
            self.assertEqual(last_of(f"{line}, {change}, undo", PROBES), last_of(line, PROBES), change)
            self.assertNotEqual(last_of(f"{line}, {change}", PROBES), last_of(line, PROBES), change)

    def test_what_leaves_all_as_it_was_is_no_change(self):
        line = laid_out((2, 1), 1, 1, 2) + ", toeven, toplans, plan 3 1, fair 1, weight 1 4"
        for call in ("brings 0 2", "looks 1", "misdeeds 1", "fine 2", "toeven", "mean", "ifplayed 0 1",
                     "best", "gain", "past", "worth", "look", "dare", "from_day 0 0 0", "lookfrom 0 1 1",
                     "darefrom 0 1 1", "four", "caught", "brought", "ifbrings 0 0", "iflooks 0", "iffine 1",
                     "without 0", "firstday", "told", "evengain", "left", "evenworth", "evenlook", "evendare",
                     "worthof 8 1 1", "eveniffine 9", "iflook 1", "ifdare 1", "evencaught", "done", "looked 0",
                     "spare 0", "looksfor 9", "finefor 9", "weight 1 4", "planmisdeeds 1", "planfine 2", "reply",
                     "daresnow", "seen 1 1 1", "planlooked 0", "meanlooks", "mostlooks", "worthlooks 2", "over",
                     "bestchance 1 1", "bestlooked 1", "planscaught", "plansdone", "unlooked", "plans"):
            found = last_of(line, (call, "past") + PROBES)
            self.assertGreaterEqual(found[0][0], 0, call)
            self.assertEqual(found[1:], [[7]] + last_of(line, PROBES), call)

    def test_the_same_plans_laid_down_again(self):
        line = "begin 0 1 2, day 1, day 1, toplans"
        self.assertEqual(ask_last(line + ", toplans, past"), [3])
        self.assertEqual(ask_last(line + ", fair 1, fair 1, past"), [4])
        self.assertEqual(ask_last(line + ", plan 0 2, plan 1 1, plan 2 1, fair 1, past"), [6])
        self.assertEqual(ask_last(line + ", plan 2 1, plan 1 1, plan 0 2, fair 1, past"), [7])
        self.assertEqual(ask_last(line + ", plan 0 2, toplans, past"), [5])
        # To drop a plan and put it on again are two changes, though all is as it was ahead of both.
        self.assertEqual(ask_last(line + ", plan 0 2, dropplan 0, plan 0 2, past"), [6])

    def test_the_table_s_changes_are_taken_back_one_by_one(self):
        self.assertEqual(
            ask("begin 0 1 2, plan 1 5, weight 0 6, plan 0 1, dropplan 0, planfine 9, planmisdeeds 6, fair 1, plans, "
                "undo, plans, undo, plans, undo, plans, undo, plans, undo, plans, undo, plans, undo, plans, undo")[8:],
            [[1, 6, 9, 2, 0, 9, 1, 1], [6], [1, 6, 9, 1, 0, 1], [5], [1, 1, 9, 1, 0, 1], [4], [1, 1, 2, 1, 0, 1],
             [3], [1, 1, 2, 2, 1, 6, 0, 1], [2], [1, 1, 2, 1, 1, 6], [1], [1, 1, 2, 1, 1, 5], [0], [1, 1, 2, 0],
             [-6]],
        )

    def test_a_catch_in_the_alike_season_taken_back(self):
        self.assertEqual(
            ask(laid_out((1, 1), 1, 1, 2) + ", toeven, evenworth, evenday 1 1, left, evengain, evenworth, undo, left, "
                "evengain, evenworth")[4:],
            [[0, 1, 4], [0, -2], [0, 0, 0, 2], [1, -2], [0, 0, 1], [3], [2, 1, 1, 2], [0, 0], [0, 1, 4]],
        )

    def test_the_alike_season_laid_down_as_it_is_at_first(self):
        self.assertEqual(ask("begin 0 0 2, day 3, toeven, past, evenday 0 0, toeven, past")[2:],
                         [[1], [1], [0, 0], [1], [3]])
        for line in ("begin 1 0 2, day 3", "begin 0 1 2, day 3", "begin 0 0 2, day 3, fine 1",
                     "begin 0 0 2, day 3, day 3"):
            before, answered, behind = ask(line + ", past, toeven, past")[-3:]
            self.assertEqual(behind[0], before[0] + 1, line)

    def test_the_alike_season_laid_down_anew_behind_a_catch(self):
        self.assertEqual(ask("begin 1 1 2, day 3, toeven, evenday 1 1, toeven, past, toeven, past")[4:],
                         [[1], [4], [1], [4]])

    def test_the_table_laid_down_as_it_is_at_first(self):
        self.assertEqual(ask("begin 5 4 2, day 3, toplans, past, looks 0, toplans, past")[2:],
                         [[1], [1], [5], [1], [2]])
        for line in ("begin 0 1 2, day 3, misdeeds 2", "begin 0 0 2, day 3, fine 1", "begin 0 0 2, day 3, day 3"):
            before, answered, behind = ask(line + ", past, toplans, past")[-3:]
            self.assertEqual(behind[0], before[0] + 1, line)

    def test_the_table_is_taken_back(self):
        self.assertEqual(
            ask("begin 0 1 2, day 3, day 3, toplans, toplans, past, undo, past, toplans, past")[3:],
            [[2], [2], [3], [2], [2], [2], [3]],
        )

    def test_the_misdeeds_changed_later_are_not_the_table_s(self):
        self.assertEqual(ask_last("begin 0 1 2, day 3, misdeeds 2, misdeeds 1, toplans, past"), [3])

    def test_no_refusal_is_a_change(self):
        found = ask("begin 0 0 1, drop, day 4, brings 0 0, looks 6, misdeeds 6, fine 0, play 0 0, toeven, toplans, "
                    "evenday 1 0, evenday 2 0, plan 2 1, plan 0 0, dropplan 0, weight 0 1, planmisdeeds 7, "
                    "planfine 10, fair 2, reply, seen 0 0 0, worthlooks 2, undo, past, begin 6 0 0, past")
        self.assertEqual(found[-4:], [[-6], [0], [-22], [0]])
        self.assertTrue(all(answer[0] < 0 for answer in found[1:-3]))

    def test_a_begin_leaves_nothing_to_take_back(self):
        self.assertEqual(ask("begin 0 0 1, day 1, begin 0 0 1, past, undo")[2:], [[0], [0], [-6]])

    def test_undo_is_no_change_itself(self):
        self.assertEqual(
            ask("begin 0 0 1, day 1, day 2, undo, told, undo, told, undo, told")[3:],
            [[1], [1, 0, 0, 1, 1], [0], [0, 0, 0, 1], [-6], [0, 0, 0, 1]],
        )

    def test_a_change_behind_one_taken_back(self):
        self.assertEqual(
            ask("begin 0 0 1, day 1, day 2, undo, day 3, past, undo, told, undo, told, past")[5:],
            [[2], [1], [1, 0, 0, 1, 1], [0], [0, 0, 0, 1], [0]],
        )

    def test_a_catch_taken_back(self):
        self.assertEqual(
            ask(laid_out((2, 1), 1, 1, 2) + ", mean, play 1 1, mean, undo, gain, told, mean, play 0 1, gain")[3:],
            [[0, 2, 5], [0, -2], [0, -2, 1], [2], [0, 0], [2, 1, 1, 2, 2, 1], [0, 2, 5], [0, 2], [0, 2]],
        )


class Twelve(unittest.TestCase):
    def test_twelve_changes_are_all_taken_back(self):
        changes = ", ".join(f"looks {number % 2 + 1}" for number in range(12))
        found = ask(f"begin 0 0 1, {changes}, past, " + "undo, " * 12 + "told, undo, past")
        self.assertEqual(found[13:], [[12]] + [[left] for left in range(11, -1, -1)] + [[0, 0, 0, 1], [-6], [0]])

    def test_of_thirteen_the_first_is_not(self):
        changes = ", ".join(f"looks {number % 2 + 1}" for number in range(13))
        found = ask(f"begin 0 0 1, {changes}, past, " + "undo, " * 12 + "told, undo, told, past")
        self.assertEqual(
            found[14:],
            [[12]] + [[left] for left in range(11, -1, -1)] + [[0, 1, 0, 1], [-6], [0, 1, 0, 1], [0]],
        )

    def test_one_that_is_no_change_pushes_nothing_out(self):
        changes = ", ".join(f"looks {number % 2 + 1}" for number in range(12))
        found = ask(f"begin 0 0 1, {changes}, looks 2, worth, looks 6, past, " + "undo, " * 12 + "told")
        self.assertEqual((found[16], found[-1]), ([12], [0, 0, 0, 1]))

    def test_of_thirteen_on_the_season_and_beside_it_the_first_is_not(self):
        changes = ("day 1", "day 2", "toeven", "toplans", "plan 1 5", "evenday 0 1", "plan 2 1", "weight 0 3",
                   "play 0 1", "planfine 3", "fair 1", "evenday 1 0", "dropplan 0")
        line = "begin 1 1 2"
        known = [last_of(line, PROBES)]
        for change in changes:
            line += ", " + change
            known.append(last_of(line, PROBES))
        self.assertEqual(ask_last(line + ", past"), [12])
        for left in range(11, -1, -1):
            line += ", undo"
            self.assertEqual(ask_last(line), [left])
            self.assertEqual(last_of(line, PROBES), known[left + 1])
        self.assertEqual(last_of(line, ("undo",) + PROBES), [[-6]] + known[1])

    def test_twelve_on_the_season_and_beside_it_are_all_taken_back(self):
        changes = ("day 1", "toeven", "plan 1 5", "evenday 0 1", "plan 0 1", "weight 0 3", "planfine 3",
                   "planmisdeeds 6", "fair 1", "toplans", "play 1 1", "fine 1")
        line = "begin 1 1 2"
        probes = ("told", "gain", "left", "evengain", "plans")
        found = ask(", ".join((line,) + changes + ("past",) + ("undo",) * 12 + probes + ("past",)))
        self.assertEqual(found[13], [12])
        self.assertEqual(found[26:-1], last_of(line, probes))
        self.assertEqual(found[-1], [0])

    def test_taken_back_all_is_as_it_was(self):
        changes = ["play 0 0", "play 0 1", "play 1 0", "play 1 1", "day 1", "day 3", "drop", "brings 0 2", "looks 2",
                   "misdeeds 3", "fine 2", "fine 3", "toeven", "toplans", "evenday 0 1", "evenday 1 0", "evenday 1 1",
                   "plan 1 3", "plan 0 2", "dropplan 0", "weight 0 4", "planmisdeeds 1", "planfine 5", "fair 1"]
        chosen = random.Random(1)
        for trial in range(200):
            line = laid_out((1, 2, 0), 2, 2, 1) + ", toeven"
            known = [last_of(line, PROBES)]
            for turn in range(12):
                longer = f"{line}, {chosen.choice(changes)}"
                if ask_last(longer + ", past") != ask_last(line + ", past"):
                    known.append(last_of(longer, PROBES))
                line = longer
                if ask_last(line + ", past") == [12]:
                    break
            while len(known) > 1:
                known.pop()
                line += ", undo"
                self.assertEqual(last_of(line, PROBES), known[-1], line)


if __name__ == "__main__":
    unittest.main()
