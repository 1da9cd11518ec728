"""What holds of the alike season, of the table of plans, and of both beside the season."""

import unittest
from fractions import Fraction
from itertools import product

from tests.helper import (
    as_fraction, as_fractions, ask, ask_last, every_alike, every_strategy, got_by, laid_out, last_of, made_alike,
    made_table, some_tables, told_as,
)


class AlikeSeason(unittest.TestCase):
    def test_nobody_does_better_with_any_other_chance(self):
        for days, looks, misdeeds, fine in every_alike():
            line = made_alike(days, looks, misdeeds, fine)
            worth = as_fraction(ask_last(line + ", evenworth"))
            for chance in range(0, 101, 4):
                if looks or not chance:
                    self.assertGreaterEqual(as_fraction(ask_last(f"{line}, iflook {chance}")), worth, line)
                if misdeeds or not chance:
                    self.assertLessEqual(as_fraction(ask_last(f"{line}, ifdare {chance}")), worth, line)

    def test_with_the_chances_told_it_is_worth_what_is_told(self):
        # These chances come out as whole hundredths, so that iflook and ifdare can be asked with them.
        asked = 0
        for days, looks, misdeeds, fine in every_alike():
            line = made_alike(days, looks, misdeeds, fine)
            worth, look, dare = [as_fraction(found) for found in last_of(line, ("evenworth", "evenlook", "evendare"))]
            if (look * 100).denominator == 1:
                self.assertEqual(ask_last(f"{line}, iflook {look * 100}"), told_as(worth), line)
                asked += 1
            if (dare * 100).denominator == 1:
                self.assertEqual(ask_last(f"{line}, ifdare {dare * 100}"), told_as(worth), line)
                asked += 1
        self.assertGreater(asked, 300)

    def test_looking_does_not_hang_on_the_misdeeds(self):
        for days, looks, fine in product(range(1, 5), range(5), (1, 2, 3)):
            found = {
                tuple(ask_last(made_alike(days, looks, misdeeds, fine) + ", evenlook")) for misdeeds in range(5)
            }
            self.assertEqual(len(found), 1, (days, looks, fine))

    def test_every_day_is_looked_at_as_likely(self):
        for days, looks, misdeeds, fine in every_alike():
            line = made_alike(days, looks, misdeeds, fine)
            look = ask_last(line + ", evenlook")
            for t in range(days):
                self.assertEqual(ask_last(f"{line}, looked {t}"), look, line)

    def test_the_spare_looks_are_one_all_together(self):
        for days, looks, misdeeds, fine in every_alike():
            line = made_alike(days, looks, misdeeds, fine)
            self.assertEqual(sum(as_fraction(ask_last(f"{line}, spare {spared}")) for spared in range(looks + 1)), 1)

    def test_worth_is_what_is_done_less_the_fine_as_often_as_caught(self):
        for days, looks, misdeeds, fine in every_alike():
            line = made_alike(days, looks, misdeeds, fine)
            worth, caught, done = [as_fraction(each) for each in last_of(line, ("evenworth", "evencaught", "done"))]
            self.assertEqual(worth, done - fine * caught, line)
            self.assertTrue(0 <= caught <= 1 and 0 <= done <= min(days, misdeeds), line)

    def test_more_looks_are_never_worth_more(self):
        for fine, days in product((1, 2, 3), range(1, 9)):
            for misdeeds in range(days + 1):
                calls = [f"worthof {days} {looks} {misdeeds}" for looks in range(days + 1)]
                worths = [as_fraction(found) for found in last_of(f"begin 0 0 {fine}", calls)]
                self.assertEqual(worths, sorted(worths, reverse=True))
                self.assertEqual(worths[-1], 0)

    def test_a_greater_fine_is_never_worth_more(self):
        for days, looks, misdeeds, fine in every_alike((1,)):
            calls = [f"eveniffine {other}" for other in range(1, 10)]
            worths = [as_fraction(each) for each in last_of(made_alike(days, looks, misdeeds, fine), calls)]
            self.assertEqual(worths, sorted(worths, reverse=True))

    def test_the_mean_of_what_comes_behind_today(self):
        for days, looks, misdeeds, fine in every_alike():
            line = made_alike(days, looks, misdeeds, fine)
            worth, look, dare = [as_fraction(each) for each in last_of(line, ("evenworth", "evenlook", "evendare"))]
            behind = Fraction(0)
            for looked, dared in product((0, 1), (0, 1)):
                chance = (look if looked else 1 - look) * (dare if dared else 1 - dare)
                if chance:
                    played, later = last_of(line, (f"evenday {looked} {dared}", "evenworth"))
                    behind += chance * (played[1] + as_fraction(later))
            self.assertEqual(behind, worth, line)


class Plans(unittest.TestCase):
    def test_nobody_answers_better_than_told(self):
        strategies = {days: list(every_strategy(days)) for days in (1, 2, 3)}
        for days, misdeeds, fine, plans in some_tables(60, 11, longest=3):
            best = max(got_by(strategy, plans, days, misdeeds, fine) for strategy in strategies[days])
            self.assertEqual(ask_last(made_table(days, misdeeds, fine, plans) + ", reply"), told_as(best))

    def test_what_they_get_is_what_is_done_less_the_fine_as_often_as_caught(self):
        for days, misdeeds, fine, plans in some_tables(400, 12):
            line = made_table(days, misdeeds, fine, plans)
            reply, caught, done = [as_fraction(each) for each in last_of(line, ("reply", "planscaught", "plansdone"))]
            self.assertEqual(reply, done - fine * caught, line)
            self.assertTrue(0 <= caught <= 1 and 0 <= done <= min(days, misdeeds), line)

    def test_no_plan_of_so_many_looks_holds_the_other_lower(self):
        for days, misdeeds, fine, plans in some_tables(400, 13):
            line = made_table(days, misdeeds, fine, plans)
            most, reply, over = last_of(line, ("mostlooks", "reply", "over"))
            self.assertGreaterEqual(as_fraction(over), 0, line)
            for looks in range(most[0], days + 1):
                worth = as_fraction(ask_last(f"{line}, worthlooks {looks}"))
                self.assertGreaterEqual(as_fraction(reply), worth, line)
            worth = as_fraction(ask_last(f"{line}, worthlooks {most[0]}"))
            self.assertEqual(as_fraction(over), as_fraction(reply) - worth, line)

    def test_the_best_plan_s_plans_told(self):
        for days, fine in product((1, 2, 3, 4), (1, 2, 9)):
            for looks in range(days + 1 if days < 4 else 2):
                for misdeeds in range(7):
                    line = f"{made_table(days, misdeeds, fine)}, fair {looks}"
                    reply, over, worth, most = last_of(line, ("reply", "over", f"worthlooks {looks}", "mostlooks"))
                    self.assertEqual((reply, over, most), (worth, [0, 0, 1], [looks]), line)
                    looked = [ask_last(f"{line}, planlooked {t}") for t in range(days)]
                    self.assertEqual(looked, [ask_last(f"{line}, bestlooked {looks}")] * days, line)

    def test_to_dare_once_gets_as_much_on_each_day(self):
        for fine, looks in product((1, 3), (1, 2)):
            line = f"{made_table(3, 1, fine)}, fair {looks}"
            told = ask_last(line + ", plans")
            plans = list(zip(told[4::2], told[5::2]))
            pasts = [past for t in range(3) for past in product((0, 1), repeat=t)]
            on_day = [got_by({past: len(past) == day for past in pasts}, plans, 3, 1, fine) for day in range(3)]
            worth = as_fraction(ask_last(f"{line}, worthlooks {looks}"))
            self.assertEqual(on_day, [worth] * 3)

    def test_the_chances_of_all_sets_are_one_together(self):
        for days, fine in product((1, 2, 3, 4), (1, 4)):
            for looks in range(days + 1):
                line = made_table(days, 1, fine)
                found = last_of(line, [f"bestchance {looks} {chosen}" for chosen in range(2 ** days)])
                self.assertEqual(sum(as_fraction(each) for each in found), 1)

    def test_more_looks_and_a_greater_fine_are_never_worth_more(self):
        for days, misdeeds in product((1, 2, 3, 4), (0, 1, 2, 6)):
            for fine in range(1, 9):
                line = made_table(days, misdeeds, fine)
                worths = [as_fraction(each) for each in last_of(line, [f"worthlooks {m}" for m in range(days + 1)])]
                self.assertEqual(worths, sorted(worths, reverse=True))
                higher = made_table(days, misdeeds, fine + 1)
                for looks, worth in enumerate(worths):
                    self.assertLessEqual(as_fraction(ask_last(f"{higher}, worthlooks {looks}")), worth)


class Whole(unittest.TestCase):
    def test_alike_days_are_worth_the_same_here_and_beside(self):
        for days in (1, 2, 3, 4):
            for looks, misdeeds, fine in product(range(days + 1), range(days + 1), (1, 2, 3)):
                line = laid_out((1,) * days, looks, misdeeds, fine) + ", toeven, toplans"
                calls = ("worth", "mean", "evenworth", f"worthlooks {looks}", f"worthof {days} {looks} {misdeeds}")
                found = last_of(line, calls)
                self.assertEqual(found, [found[0]] * len(calls), line)

    def test_alike_days_are_worth_the_same_on_the_way(self):
        for first, second in product(("0 0", "0 1", "1 0"), repeat=2):
            line = laid_out((1, 1, 1, 1), 2, 2, 2) + ", toeven"
            for played in (first, second):
                line += f", play {played}, evenday {played}"
                worth, evenworth, gain, evengain = last_of(line, ("worth", "evenworth", "gain", "evengain"))
                self.assertEqual((worth, gain), (evenworth, evengain), line)

    def test_no_table_of_plans_with_no_more_looks_holds_the_other_lower(self):
        for days, misdeeds, fine, plans in some_tables(200, 14):
            misdeeds, fine = min(misdeeds, 5), min(fine, 3)
            for looks in range(5):
                told = [(chosen, weight) for chosen, weight in plans if bin(chosen).count("1") <= looks]
                if told:
                    line = laid_out((1,) * days, looks, misdeeds, fine) + ", toplans"
                    line += "".join(", plan %d %d" % plan for plan in told)
                    worth, reply = last_of(line, ("worth", "reply"))
                    self.assertGreaterEqual(as_fraction(reply), as_fraction(worth), line)

    def test_numbers_are_below_the_bound(self):
        for looks in range(9):
            found = ask("begin 0 0 3, " + ", ".join(f"worthof 8 {looks} {misdeeds}" for misdeeds in range(9)))
            self.assertTrue(all(abs(number) < 2 ** 63 for answer in found for number in answer))

    def test_nothing_is_told_as_none_of_one(self):
        for call in ("evenworth", "evencaught", "done", "evenlook", "evendare", "iflook 0", "ifdare 0"):
            self.assertEqual(ask_last("begin 0 0 3, " + call), [0, 0, 1])
        for call in ("reply", "planlooked 0", "meanlooks", "over", "planscaught", "plansdone", "bestlooked 0"):
            self.assertEqual(ask_last("begin 0 0 3, plan 0 4, " + call), [0, 0, 1])
        self.assertEqual(as_fractions(ask_last("begin 0 0 3, plan 1 4, unlooked")), [0])


if __name__ == "__main__":
    unittest.main()
