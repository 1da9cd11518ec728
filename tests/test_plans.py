"""The table of plans: "Any plan of looks", the calls 47 to 66."""

import unittest
from fractions import Fraction

from tests.helper import answered, ask, ask_last, best_got, drawn, last_of, made_table, some_tables, told_as

MOST = 4294967295
OF_PLANS = ("reply", "daresnow", "planlooked 0", "meanlooks", "mostlooks", "unlooked", "over", "planscaught",
            "plansdone")


def days_of(chosen):
    return tuple(t for t in range(6) if chosen >> t & 1)


class Telling(unittest.TestCase):
    def test_at_first(self):
        self.assertEqual(ask("begin 1 4 2, plans, day 3, day 1, misdeeds 5, fine 1, plans, toplans, plans"),
                         [[0], [1, 4, 2, 0], [0], [1], [4], [2], [1, 4, 2, 0], [2], [2, 5, 1, 0]])

    def test_plans_are_numbered_and_told(self):
        self.assertEqual(
            ask(made_table(3, 2, 4) + ", plan 5 7, plan 0 1000, plan 7 1, plan 5 2, plans")[-5:],
            [[0], [1], [2], [3], [3, 2, 4, 4, 5, 7, 0, 1000, 7, 1, 5, 2]],
        )

    def test_one_gone_those_behind_are_numbered_less(self):
        self.assertEqual(
            ask(made_table(2, 1, 1, ((0, 1), (1, 2), (2, 3), (3, 4)))
                + ", dropplan 1, plans, weight 1 9, plans, dropplan 2, dropplan 2, dropplan 0, plans, dropplan 0, "
                "dropplan 0, plans")[-11:],
            [[3], [2, 1, 1, 3, 0, 1, 2, 3, 3, 4], [3], [2, 1, 1, 3, 0, 1, 2, 9, 3, 4], [2], [-2], [1],
             [2, 1, 1, 1, 2, 9], [0], [-2], [2, 1, 1, 0]],
        )

    def test_weight_misdeeds_and_fine_tell_what_it_was(self):
        self.assertEqual(
            ask(made_table(2, 1, 1, ((0, 1), (1, 2)))
                + ", weight 0 1000, weight 0 5, planmisdeeds 6, planmisdeeds 0, planfine 9, planfine 2, plans")[-7:],
            [[1], [1000], [1], [6], [1], [9], [2, 0, 2, 2, 0, 5, 1, 2]],
        )

    def test_the_tenth_plan_and_one_more(self):
        line = made_table(1, 1, 1, [(number % 2, number + 1) for number in range(9)])
        self.assertEqual(
            ask(line + ", plan 1 1, plan 1 1, plan 2 1, plan 0 0, plan 0 1001, dropplan 4, plan 0 1, plan 0 1")[-8:],
            [[9], [-28], [-22], [-22], [-22], [9], [9], [-28]],
        )

    def test_toplans_leaves_no_plans(self):
        self.assertEqual(
            ask(made_table(2, 1, 3, ((0, 1), (1, 2))) + ", toplans, plans, reply")[-3:],
            [[2], [2, 0, 1, 0], [-6]],
        )

    def test_the_season_and_the_table_go_on_by_themselves(self):
        self.assertEqual(
            ask("begin 1 1 1, day 1, day 1, toplans, plan 3 4, play 0 1, misdeeds 3, fine 2, plans, planmisdeeds 6, "
                "planfine 9, told, left")[-5:],
            [[2, 1, 1, 1, 3, 4], [1], [1], [1, 1, 3, 2, 1], [1, 0, 0, 1]],
        )


class Fair(unittest.TestCase):
    def test_the_sets_by_their_numbers(self):
        self.assertEqual(ask(made_table(2, 1, 3, ((3, 5),)) + ", fair 1, plans, fair 2, plans, fair 0, plans")[-6:],
                         [[3], [2, 1, 3, 3, 0, 3, 1, 1, 2, 1], [4], [2, 1, 3, 4, 0, 9, 1, 3, 2, 3, 3, 1],
                          [1], [2, 1, 3, 1, 0, 1]])

    def test_the_heaviest(self):
        self.assertEqual(ask_last(made_table(3, 0, 9) + ", fair 3, plans"),
                         [3, 0, 9, 8, 0, 729, 1, 81, 2, 81, 3, 9, 4, 81, 5, 9, 6, 9, 7, 1])

    def test_as_heavy_as_in_the_best_plan(self):
        for days in (1, 2, 3, 4):
            for looks in range(days + 1):
                for fine in (1, 2, 9):
                    chances = drawn(days, looks, fine)
                    found = ask_last(f"{made_table(days, 1, fine)}, fair {looks}, plans")
                    if len(chances) > 10:
                        self.assertEqual(ask_last(f"{made_table(days, 1, fine)}, fair {looks}"), [-28])
                        self.assertEqual(found, [days, 1, fine, 0])
                        continue
                    self.assertEqual(found[:4], [days, 1, fine, len(chances)])
                    sets, weights = found[4::2], found[5::2]
                    self.assertEqual(sets, sorted(sets))
                    self.assertEqual({days_of(chosen): Fraction(weight, sum(weights))
                                      for chosen, weight in zip(sets, weights)}, chances)

    def test_refused(self):
        line = made_table(4, 1, 1, ((3, 5),))
        for looks, refusal in ((5, -22), (MOST, -22), (2, -28), (3, -28), (4, -28)):
            self.assertEqual(last_of(line, (f"fair {looks}", "plans", "past")),
                             [[refusal], [4, 1, 1, 1, 3, 5], ask_last(line + ", past")])
        self.assertEqual(ask_last(line + ", fair 1"), [5])
        full = made_table(2, 1, 1, ((0, 1),) * 10)
        self.assertEqual(last_of(full, ("fair 2", "plan 0 1", "plans")),
                         [[4], [4], [2, 1, 1, 5, 0, 1, 1, 1, 2, 1, 3, 1, 0, 1]])


class Refused(unittest.TestCase):
    def assert_refused(self, line, call, refusal):
        probes = ("plans", "told", "left", "past")
        self.assertEqual(last_of(line, (call,) + probes), [[refusal]] + last_of(line, probes), (line, call))

    def test_plan(self):
        line = made_table(3, 1, 1)
        for arguments in ("8 1", f"{MOST} 1", "16 1", "0 0", "7 0", "0 1001", f"0 {MOST}", "8 0", f"{MOST} {MOST}"):
            self.assert_refused(line, "plan " + arguments, -22)
        self.assert_refused(made_table(1, 1, 1), "plan 2 1", -22)
        self.assert_refused(made_table(4, 1, 1), "plan 16 1", -22)
        self.assertEqual(ask(made_table(4, 1, 1) + ", plan 15 1, plan 8 1000")[-2:], [[0], [1]])

    def test_no_such_plan_comes_first(self):
        for line, numbers in ((made_table(2, 1, 1), (0, 1, MOST)), (made_table(2, 1, 1, ((0, 1), (1, 2))), (2, MOST))):
            for number in numbers:
                self.assert_refused(line, f"dropplan {number}", -2)
                for amount in (0, 1, 1001, MOST):
                    self.assert_refused(line, f"weight {number} {amount}", -2)

    def test_weight(self):
        for amount in (0, 1001, MOST):
            self.assert_refused(made_table(2, 1, 1, ((0, 1), (1, 2))), f"weight 1 {amount}", -22)

    def test_misdeeds_and_fine(self):
        for amount in (7, MOST):
            self.assert_refused(made_table(2, 1, 1), f"planmisdeeds {amount}", -22)
        for amount in (0, 10, MOST):
            self.assert_refused(made_table(2, 1, 1), f"planfine {amount}", -22)

    def test_without_plans(self):
        for line in (made_table(2, 1, 1), made_table(2, 0, 1), "begin 1 1 1"):
            for call in OF_PLANS + ("planlooked 9", f"planlooked {MOST}", "seen 0 0 0", "seen 9 9 9", "seen 1 0 7",
                                    f"seen {MOST} {MOST} {MOST}"):
                self.assert_refused(line, call, -6)
        line = made_table(2, 1, 1, ((0, 1),)) + ", dropplan 0"
        for call in OF_PLANS:
            self.assert_refused(line, call, -6)

    def test_planlooked(self):
        for t in (2, 3, MOST):
            self.assert_refused(made_table(2, 1, 1, ((3, 1),)), f"planlooked {t}", -22)

    def test_seen(self):
        line = made_table(3, 1, 1, ((1, 1), (6, 2)))
        for arguments in ("3 0 1", f"{MOST} 0 1", f"{MOST} {MOST} {MOST}", "0 1 1", "0 2 1", "1 2 1", "1 3 1", "2 4 1",
                          "2 5 1", "2 7 1", f"2 {MOST} 1", "0 0 7", "2 1 7", f"2 1 {MOST}", "2 0 7", "2 4 7"):
            self.assert_refused(line, "seen " + arguments, -22)
        for arguments in ("2 0 1", "2 3 1", "2 3 0", "2 0 6"):
            self.assert_refused(line, "seen " + arguments, -33)
        for arguments in ("0 0 0", "0 0 6", "1 0 1", "1 1 1", "2 1 1", "2 2 6"):
            self.assertEqual(ask_last(f"{line}, seen {arguments}")[0], 0, arguments)

    def test_looks_above_the_days(self):
        for days in (1, 4):
            for line in (made_table(days, 1, 1), made_table(days, 1, 1, ((0, 1),))):
                for looks in (days + 1, MOST):
                    for call in (f"worthlooks {looks}", f"bestlooked {looks}", f"bestchance {looks} 0",
                                 f"bestchance {looks} {MOST}", f"fair {looks}"):
                        self.assert_refused(line, call, -22)
                for chosen in (2 ** days, MOST):
                    self.assert_refused(line, f"bestchance {days} {chosen}", -22)


class Corners(unittest.TestCase):
    def test_one_day(self):
        self.assertEqual(last_of(made_table(1, 1, 2, ((0, 3), (1, 1))), OF_PLANS),
                         [[0, 1, 4], [1], [0, 1, 4], [0, 1, 4], [1], [0, 3, 4], [0, 1, 4], [0, 1, 4], [0, 3, 4]])

    def test_to_dare_gets_as_much_and_so_they_dare(self):
        self.assertEqual(last_of(made_table(1, 1, 2, ((0, 2), (1, 1))), OF_PLANS),
                         [[0, 0, 1], [2], [0, 1, 3], [0, 1, 3], [1], [0, 2, 3], [0, 0, 1], [0, 1, 3], [0, 2, 3]])

    def test_to_dare_gets_less(self):
        self.assertEqual(last_of(made_table(1, 1, 2, ((0, 1), (1, 1))), OF_PLANS),
                         [[0, 0, 1], [0], [0, 1, 2], [0, 1, 2], [1], [0, 1, 2], [0, 0, 1], [0, 0, 1], [0, 0, 1]])

    def test_no_misdeeds(self):
        self.assertEqual(last_of(made_table(2, 0, 1, ((0, 1), (1, 1))), OF_PLANS),
                         [[0, 0, 1], [0], [0, 1, 2], [0, 1, 2], [1], [0, 1, 2], [0, 0, 1], [0, 0, 1], [0, 0, 1]])

    def test_more_misdeeds_than_days(self):
        plans = ((0, 5), (2, 1), (4, 2))
        self.assertEqual(last_of(made_table(3, 6, 2, plans), OF_PLANS), last_of(made_table(3, 3, 2, plans), OF_PLANS))
        self.assertEqual(ask_last(made_table(3, 6, 2, ((0, 7),)) + ", reply"), [0, 3, 1])

    def test_a_plan_without_looks(self):
        self.assertEqual(last_of(made_table(3, 2, 1, ((0, 7),)), OF_PLANS),
                         [[0, 2, 1], [2], [0, 0, 1], [0, 0, 1], [0], [0, 1, 1], [0, 0, 1], [0, 0, 1], [0, 2, 1]])
        self.assertEqual(last_of(made_table(3, 3, 1, ((0, 7),)), ("reply", "daresnow")), [[0, 3, 1], [1]])

    def test_a_plan_of_all_days(self):
        self.assertEqual(last_of(made_table(3, 2, 1, ((7, 4),)), OF_PLANS),
                         [[0, 0, 1], [0], [0, 1, 1], [0, 3, 1], [3], [0, 0, 1], [0, 0, 1], [0, 0, 1], [0, 0, 1]])

    def test_the_same_set_twice(self):
        twice = last_of(made_table(2, 1, 1, ((1, 2), (0, 3), (1, 1))), OF_PLANS)
        self.assertEqual(twice, last_of(made_table(2, 1, 1, ((1, 3), (0, 3))), OF_PLANS))
        self.assertEqual(ask_last(made_table(2, 1, 1, ((1, 2), (0, 3), (1, 1))) + ", planlooked 0"), [0, 1, 2])

    def test_a_day_that_is_surely_looked_at(self):
        self.assertEqual(last_of(made_table(2, 1, 1, ((1, 1), (3, 1))), OF_PLANS),
                         [[0, 0, 1], [0], [0, 1, 1], [0, 3, 2], [2], [0, 0, 1], [0, 0, 1], [0, 1, 2], [0, 1, 2]])

    def test_two_days_of_which_just_one_is(self):
        self.assertEqual(last_of(made_table(2, 1, 1, ((1, 1), (2, 1))), OF_PLANS),
                         [[0, 1, 2], [0], [0, 1, 2], [0, 1, 1], [1], [0, 0, 1], [0, 1, 6], [0, 0, 1], [0, 1, 2]])
        self.assertEqual(last_of(made_table(2, 1, 1, ((1, 1), (2, 1))), ("seen 1 1 1", "seen 1 0 1", "seen 0 0 1")),
                         [[0, 1, 1], [0, 0, 1], [0, 1, 2]])

    def test_what_was_seen_tells_which_plan_was_drawn(self):
        # Behind a look on day 0 no other comes: waiting for it gets both misdeeds done.
        self.assertEqual(
            last_of(made_table(3, 2, 1, ((1, 1), (6, 1))), ("reply", "daresnow", "planscaught", "seen 1 1 2")),
            [[0, 1, 1], [0], [0, 0, 1], [0, 2, 1]],
        )

    def test_a_greater_fine_holds_them_back(self):
        line = made_table(2, 2, 1, ((0, 2), (1, 1), (2, 1)))
        self.assertEqual(last_of(line, ("reply", "planfine 9", "reply", "daresnow", "planscaught")),
                         [[0, 3, 4], [1], [0, 1, 4], [0], [0, 0, 1]])


class BestPlan(unittest.TestCase):
    def test_written_out(self):
        self.assertEqual(
            last_of(made_table(2, 1, 3), ("worthlooks 0", "worthlooks 1", "worthlooks 2", "bestlooked 0",
                                          "bestlooked 1", "bestlooked 2", "bestchance 1 0", "bestchance 1 2",
                                          "bestchance 1 3", "bestchance 2 0", "bestchance 2 3", "bestchance 0 0",
                                          "bestchance 0 1")),
            [[0, 1, 1], [0, 1, 5], [0, 0, 1], [0, 0, 1], [0, 1, 5], [0, 1, 4], [0, 3, 5], [0, 1, 5], [0, 0, 1],
             [0, 9, 16], [0, 1, 16], [0, 1, 1], [0, 0, 1]],
        )

    def test_against_a_second_reckoning(self):
        for days in (1, 2, 3, 4):
            for looks in range(days + 1):
                for fine in (1, 2, 9):
                    chances = drawn(days, looks, fine)
                    line = made_table(days, 1, fine)
                    calls = [f"bestchance {looks} {chosen}" for chosen in range(2 ** days)]
                    self.assertEqual(last_of(line, calls),
                                     [told_as(chances.get(days_of(chosen), 0)) for chosen in range(2 ** days)])
                    self.assertEqual(ask_last(f"{line}, bestlooked {looks}"),
                                     told_as(sum(chance for chosen, chance in chances.items() if 0 in chosen)))
                    plans = [(sum(2 ** t for t in chosen), chance) for chosen, chance in chances.items()]
                    for misdeeds in range(7):
                        self.assertEqual(ask_last(f"{line}, planmisdeeds {misdeeds}, worthlooks {looks}"),
                                         told_as(best_got(plans, days, misdeeds, fine)), line)

    def test_the_plans_told_are_no_matter(self):
        calls = ("worthlooks 1", "bestlooked 1", "bestchance 1 0")
        self.assertEqual(last_of(made_table(2, 1, 3, ((3, 4),)), calls), last_of(made_table(2, 1, 3), calls))


class AgainstASecondReckoning(unittest.TestCase):
    def test_tables_with_all_calls_told_on_the_way(self):
        for days, misdeeds, fine, plans in some_tables(150, 3):
            line = made_table(days, misdeeds, fine)
            for number in range(1, len(plans) + 1):
                line += ", plan %d %d" % plans[number - 1]
                self.assert_told(line, days, misdeeds, fine, plans[:number])

    def assert_told(self, line, days, misdeeds, fine, plans):
        total = sum(weight for chosen, weight in plans)
        dared, waited, caught, done = answered(plans, days, misdeeds, fine)
        dares = 0 if dared is None or dared < waited else 1 + (dared == waited)
        got = best_got(plans, days, misdeeds, fine)
        sizes = [len(days_of(chosen)) for chosen, weight in plans]
        best = [(sum(2 ** t for t in chosen), chance) for chosen, chance in drawn(days, max(sizes), fine).items()]
        expected = [
            told_as(got), [dares], told_as(Fraction(sum(w for s, w in plans if s & 1), total)),
            told_as(Fraction(sum(size * plan[1] for size, plan in zip(sizes, plans)), total)), [max(sizes)],
            told_as(Fraction(sum(w for s, w in plans if s == 0), total)),
            told_as(got - best_got(best, days, misdeeds, fine)), told_as(caught), told_as(done),
        ]
        self.assertEqual(last_of(line, OF_PLANS), expected, line)
        told = [days, misdeeds, fine, len(plans)] + [number for plan in plans for number in plan]
        self.assertEqual(ask_last(line + ", plans"), told)

    def test_each_day_and_all_that_may_be_seen(self):
        for days, misdeeds, fine, plans in some_tables(60, 4):
            line = made_table(days, misdeeds, fine, plans)
            total = sum(weight for chosen, weight in plans)
            for t in range(days):
                self.assertEqual(ask_last(f"{line}, planlooked {t}"),
                                 told_as(Fraction(sum(w for s, w in plans if s >> t & 1), total)))
                for chosen in range(2 ** t):
                    past = tuple(chosen >> u & 1 for u in range(t))
                    there = any(s % 2 ** t == chosen for s, w in plans)
                    for k in (0, 1, 3, 6):
                        expected = told_as(best_got(plans, days, k, fine, past)) if there else [-33]
                        self.assertEqual(ask_last(f"{line}, seen {t} {chosen} {k}"), expected, line)

    def test_seen_of_nothing_is_the_reply(self):
        for days, misdeeds, fine, plans in some_tables(40, 5):
            line = made_table(days, misdeeds, fine, plans)
            self.assertEqual(ask_last(line + ", reply"), ask_last(f"{line}, seen 0 0 {misdeeds}"))

    def test_the_heaviest_weights(self):
        for days, misdeeds, fine, plans in some_tables(40, 6, heaviest=1000):
            self.assertEqual(ask_last(made_table(days, misdeeds, fine, plans) + ", reply"),
                             told_as(best_got(plans, days, misdeeds, fine)))


class NothingChanged(unittest.TestCase):
    def test_what_is_told_changes_nothing(self):
        line = made_table(3, 2, 2, ((5, 2), (0, 3), (1, 1)))
        probes = ("plans", "told", "gain", "left", "evengain", "past")
        calls = OF_PLANS + ("seen 1 1 2", "worthlooks 2", "bestchance 1 1", "bestlooked 1", "plans")
        self.assertEqual(last_of(line, calls + probes)[-len(probes):], last_of(line, probes))


if __name__ == "__main__":
    unittest.main()
