"""What the alike season comes to: points 2, 3 and 4 of "When to look", the calls 34 to 46."""

import unittest
from fractions import Fraction

from tests.helper import (
    alike_end, ask, ask_last, daring_chance, drawn, drawn_chance, every_alike, laid_out, last_of, made_alike, today,
    told_as, value,
)

MOST = 4294967295
CALLS = ("evenworth", "evenlook", "evendare", "evencaught", "done")


class Worth(unittest.TestCase):
    def test_two_days_a_look_and_a_misdeed(self):
        self.assertEqual(
            last_of(made_alike(2, 1, 1, 2), CALLS + ("looked 0", "looked 1", "spare 0", "spare 1")),
            [[0, 1, 4], [0, 1, 4], [0, 1, 4], [0, 1, 16], [0, 3, 8], [0, 1, 4], [0, 1, 4], [0, 1, 2], [0, 1, 2]],
        )

    def test_three_days_told_on_the_way(self):
        line = made_alike(3, 1, 2, 1)
        self.assertEqual(last_of(line, CALLS), [[0, 3, 4], [0, 1, 4], [0, 5, 12], [0, 3, 16], [0, 15, 16]])
        line += ", evenday 0 1"
        self.assertEqual(last_of(line, CALLS), [[0, 1, 3], [0, 1, 3], [0, 1, 3], [0, 1, 9], [0, 4, 9]])
        line += ", evenday 1 0"
        self.assertEqual(last_of(line, CALLS), [[0, 1, 1], [0, 0, 1], [0, 1, 1], [0, 0, 1], [0, 1, 1]])
        line += ", evenday 0 1"
        self.assertEqual(last_of(line, CALLS), [[0, 0, 1], [-6], [-6], [0, 0, 1], [0, 0, 1]])
        self.assertEqual(ask_last(line + ", evengain"), [0, 2])

    def test_at_first_there_is_nothing_to_do(self):
        self.assertEqual(
            last_of("begin 5 5 2, day 3", CALLS + ("looked 0", "spare 0", "spare 1", "looksfor 9", "finefor 9",
                                                   "iflook 0", "ifdare 0", "iflook 1", "ifdare 1", "eveniffine 9")),
            [[0, 0, 1]] * 6 + [[0, 1, 1], [-22], [0], [1], [0, 0, 1], [0, 0, 1], [-33], [-33], [0, 0, 1]],
        )

    def test_one_day(self):
        for looks, misdeeds, expected in (
            (0, 0, [0, 0, 1]), (0, 1, [0, 1, 1]), (1, 0, [0, 0, 1]), (1, 1, [0, 0, 1]),
        ):
            self.assertEqual(ask_last(made_alike(1, looks, misdeeds, 3) + ", evenworth"), expected)
        self.assertEqual(last_of(made_alike(1, 1, 1, 3), ("evenlook", "evendare")), [[0, 1, 4], [0, 0, 1]])
        self.assertEqual(last_of(made_alike(1, 0, 1, 3), ("evenlook", "evendare")), [[0, 0, 1], [0, 1, 1]])

    def test_without_looks_they_dare_at_once(self):
        self.assertEqual(last_of(made_alike(4, 0, 2, 3), CALLS),
                         [[0, 2, 1], [0, 0, 1], [0, 1, 1], [0, 0, 1], [0, 2, 1]])

    def test_without_misdeeds_one_looks_all_the_same(self):
        self.assertEqual(last_of(made_alike(2, 1, 0, 2), CALLS),
                         [[0, 0, 1], [0, 1, 4], [0, 0, 1], [0, 0, 1], [0, 0, 1]])

    def test_as_many_looks_as_days_and_more(self):
        for days in (1, 2, 3, 4):
            for looks in range(days, 5):
                self.assertEqual(last_of(made_alike(days, looks, 1, 2), CALLS),
                                 [[0, 0, 1], [0, 1, 3], [0, 0, 1], [0, 0, 1], [0, 0, 1]])

    def test_more_misdeeds_left_than_days(self):
        self.assertEqual(last_of(made_alike(2, 1, 4, 1), CALLS), last_of(made_alike(2, 1, 2, 1), CALLS))
        self.assertEqual(last_of(made_alike(2, 0, 4, 1), ("evenworth", "evendare")), [[0, 2, 1], [0, 1, 1]])

    def test_caught_nothing_comes_behind(self):
        self.assertEqual(
            last_of(made_alike(3, 2, 2, 2) + ", evenday 1 1",
                    CALLS + ("eveniffine 1", "looked 0", "spare 0", "spare 1", "spare 2", "looksfor 1000",
                             "finefor 1000", "iflook 0", "ifdare 0", "iflook 101", "ifdare 101", "worthof 2 1 1")),
            [[0, 0, 1], [-6], [-6], [0, 0, 1], [0, 0, 1], [0, 0, 1], [-22], [0, 0, 1], [0, 1, 1], [-22], [0], [1],
             [-6], [-6], [-6], [-6], [0, 1, 4]],
        )

    def test_every_alike_season_against_a_second_reckoning(self):
        for days, looks, misdeeds, fine in every_alike():
            line = made_alike(days, looks, misdeeds, fine)
            caught, done = alike_end(days, looks, misdeeds, fine)
            expected = [value((1,) * days, looks, misdeeds, fine), drawn_chance(days, looks, fine),
                        daring_chance(days, looks, misdeeds, fine), caught, done]
            self.assertEqual(last_of(line, CALLS), [told_as(each) for each in expected], line)

    def test_the_alike_season_s_own_fine_counts(self):
        self.assertEqual(ask_last(made_alike(2, 1, 1, 2) + ", fine 1, looks 0, misdeeds 0, planfine 9, evenworth"),
                         [0, 1, 4])
        self.assertEqual(ask_last(made_alike(2, 1, 1, 2) + ", fine 1, worthof 2 1 1"), [0, 1, 4])


class WorthOf(unittest.TestCase):
    def test_against_a_second_reckoning(self):
        for fine in (1, 2, 3):
            for days in range(1, 9):
                for looks in range(days + 1):
                    line = f"begin 0 0 {fine}"
                    calls = [f"worthof {days} {looks} {misdeeds}" for misdeeds in range(days + 1)]
                    self.assertEqual(
                        last_of(line, calls),
                        [told_as(value((1,) * days, looks, misdeeds, fine)) for misdeeds in range(days + 1)],
                    )

    def test_written_out(self):
        self.assertEqual(last_of("begin 0 0 3", ("worthof 8 4 8", "worthof 8 8 8", "worthof 8 0 8", "worthof 8 1 1")),
                         [[0, 56, 787], [0, 0, 1], [0, 8, 1], [0, 7, 11]])

    def test_bounds(self):
        for numbers in ("0 0 0", "9 0 0", "9 9 9", "4 5 0", "4 0 5", "8 9 0", "8 0 9", f"{MOST} 0 0", f"4 {MOST} 0",
                        f"4 0 {MOST}", f"{MOST} {MOST} {MOST}"):
            self.assertEqual(ask("begin 0 0 1, worthof " + numbers)[1], [-22], numbers)
        for numbers in ("1 0 0", "8 8 8", "4 4 0", "4 0 4"):
            self.assertEqual(ask("begin 0 0 1, worthof " + numbers)[1][0], 0, numbers)


class IfFine(unittest.TestCase):
    def test_against_a_second_reckoning(self):
        for days, looks, misdeeds, fine in every_alike((2,)):
            calls = [f"eveniffine {other}" for other in range(1, 10)]
            self.assertEqual(last_of(made_alike(days, looks, misdeeds, fine), calls),
                             [told_as(value((1,) * days, looks, misdeeds, other)) for other in range(1, 10)])

    def test_written_out_and_nothing_changed(self):
        self.assertEqual(last_of(made_alike(2, 1, 1, 2), ("eveniffine 9", "eveniffine 1", "evenworth", "left")),
                         [[0, 1, 11], [0, 1, 3], [0, 1, 4], [2, 1, 1, 2]])

    def test_bounds(self):
        for fine in (0, 10, 99, MOST):
            self.assertEqual(ask_last(f"{made_alike(2, 1, 1, 2)}, eveniffine {fine}"), [-22])
            self.assertEqual(ask_last(f"{made_alike(2, 1, 1, 2)}, evenday 1 1, eveniffine {fine}"), [-22])


class IfChance(unittest.TestCase):
    def test_looking_otherwise(self):
        self.assertEqual(
            last_of(made_alike(2, 1, 1, 2), ("iflook 0", "iflook 10", "iflook 25", "iflook 40", "iflook 100")),
            [[0, 1, 1], [0, 7, 10], [0, 1, 4], [0, 2, 5], [0, 1, 1]],
        )

    def test_daring_otherwise(self):
        self.assertEqual(
            last_of(made_alike(2, 1, 1, 2),
                    ("ifdare 0", "ifdare 10", "ifdare 25", "ifdare 50", "ifdare 100")),
            [[0, 0, 1], [0, 1, 10], [0, 1, 4], [0, -1, 2], [0, -2, 1]],
        )

    def test_without_looks(self):
        self.assertEqual(last_of(made_alike(2, 0, 2, 1), ("iflook 0", "ifdare 0", "ifdare 50", "ifdare 100")),
                         [[0, 2, 1], [0, 1, 1], [0, 3, 2], [0, 2, 1]])

    def test_without_misdeeds(self):
        self.assertEqual(last_of(made_alike(2, 2, 0, 1), ("iflook 0", "iflook 50", "iflook 100", "ifdare 0")),
                         [[0, 0, 1]] * 4)

    def test_against_a_second_reckoning(self):
        chances = (0, 1, 20, 25, 50, 75, 99, 100)
        for days, looks, misdeeds, fine in every_alike():
            line = made_alike(days, looks, misdeeds, fine)
            cases = today((1,) * days, looks, misdeeds, fine)
            for chance in chances if looks else (0,):
                part = Fraction(chance, 100)
                mixes = [part * cases.get((1, dared), 0) + (1 - part) * cases[0, dared]
                         for dared in ((0, 1) if misdeeds else (0,))]
                self.assertEqual(ask_last(f"{line}, iflook {chance}"), told_as(max(mixes)), line)
            for chance in chances if misdeeds else (0,):
                part = Fraction(chance, 100)
                mixes = [part * cases.get((looked, 1), 0) + (1 - part) * cases[looked, 0]
                         for looked in ((0, 1) if looks else (0,))]
                self.assertEqual(ask_last(f"{line}, ifdare {chance}"), told_as(min(mixes)), line)

    def test_refused_in_order(self):
        over = made_alike(1, 1, 1, 1) + ", evenday 0 0"
        for name, none_left in (("iflook", made_alike(2, 0, 2, 1)), ("ifdare", made_alike(2, 2, 0, 1))):
            for chance in (0, 1, 101, MOST):
                self.assertEqual(ask_last(f"{over}, {name} {chance}"), [-6])
            for chance in (101, MOST):
                self.assertEqual(ask_last(f"{none_left}, {name} {chance}"), [-22])
                self.assertEqual(ask_last(f"{made_alike(2, 1, 1, 1)}, {name} {chance}"), [-22])
            for chance in (1, 100):
                self.assertEqual(ask_last(f"{none_left}, {name} {chance}"), [-33])
            self.assertEqual(ask_last(f"{none_left}, {name} 0")[0], 0)

    def test_the_other_one_s_being_left_is_no_matter(self):
        self.assertEqual(ask_last(made_alike(2, 2, 0, 1) + ", iflook 100"), [0, 0, 1])
        self.assertEqual(ask_last(made_alike(2, 0, 2, 1) + ", ifdare 100"), [0, 2, 1])


class Looked(unittest.TestCase):
    def test_each_day_and_each_number_of_spare_looks(self):
        for days, looks, misdeeds, fine in every_alike():
            line = made_alike(days, looks, misdeeds, fine)
            chances = drawn(days, looks, fine)
            for t in range(days):
                expected = sum(chance for chosen, chance in chances.items() if t in chosen)
                self.assertEqual(ask_last(f"{line}, looked {t}"), told_as(expected), line)
            for spared in range(looks + 1):
                expected = sum(chance for chosen, chance in chances.items() if len(chosen) == looks - spared)
                self.assertEqual(ask_last(f"{line}, spare {spared}"), told_as(expected), line)

    def test_written_out(self):
        self.assertEqual(
            last_of(made_alike(3, 2, 3, 2), ("looked 0", "looked 1", "looked 2", "spare 0", "spare 1", "spare 2")),
            [[0, 4, 13]] * 3 + [[0, 3, 13], [0, 6, 13], [0, 4, 13]],
        )

    def test_more_looks_than_days_leave_some(self):
        self.assertEqual(last_of(made_alike(1, 3, 0, 2), ("spare 0", "spare 1", "spare 2", "spare 3", "looked 0")),
                         [[0, 0, 1], [0, 0, 1], [0, 1, 3], [0, 2, 3], [0, 1, 3]])

    def test_behind_the_last_day(self):
        self.assertEqual(last_of(made_alike(1, 1, 1, 2) + ", evenday 0 1", ("spare 0", "spare 1", "looked 0")),
                         [[0, 0, 1], [0, 1, 1], [-22]])

    def test_bounds(self):
        line = made_alike(3, 2, 1, 2)
        for t in (3, 4, MOST):
            self.assertEqual(ask_last(f"{line}, looked {t}"), [-22])
            self.assertEqual(ask_last(f"{line}, evenday 0 0, looked {t - 1}"), [-22])
        for spared in (3, 4, MOST):
            self.assertEqual(ask_last(f"{line}, spare {spared}"), [-22])
            self.assertEqual(ask_last(f"{line}, evenday 1 0, spare {spared - 1}"), [-22])


class Enough(unittest.TestCase):
    def test_written_out(self):
        self.assertEqual(
            last_of(made_alike(2, 1, 1, 2), ("looksfor 1", "looksfor 3", "looksfor 4", "looksfor 1000", "finefor 1",
                                             "finefor 3", "finefor 4", "finefor 100", "finefor 101", "finefor 1000")),
            [[1], [1], [2], [2], [1], [2], [3], [99], [-33], [-33]],
        )

    def test_nothing_to_gain(self):
        self.assertEqual(last_of(made_alike(3, 1, 0, 2), ("looksfor 1000", "finefor 1000")), [[0], [1]])
        self.assertEqual(last_of(made_alike(3, 3, 3, 2), ("looksfor 1000", "finefor 1000")), [[3], [1]])
        self.assertEqual(last_of(made_alike(1, 1, 1, 2) + ", evenday 0 0", ("looksfor 1", "finefor 1")), [[0], [1]])

    def test_without_looks_no_fine_is_enough(self):
        self.assertEqual(last_of(made_alike(3, 0, 1, 2), ("finefor 1", "looksfor 1")), [[-33], [1]])

    def test_less_not_as_much(self):
        self.assertEqual(last_of(made_alike(4, 0, 1, 1), ("looksfor 1", "looksfor 2")), [[1], [2]])
        self.assertEqual(value((1,) * 4, 1, 1, 1), Fraction(3, 5))

    def test_against_a_second_reckoning(self):
        for days, looks, misdeeds, fine in every_alike((1, 3)):
            line = made_alike(days, looks, misdeeds, fine)
            alike = (1,) * days
            for parts in (1, 2, 5, 11, 1000):
                enough = [m for m in range(5) if value(alike, m, misdeeds, fine) < Fraction(1, parts)]
                self.assertEqual(ask_last(f"{line}, looksfor {parts}"), [enough[0]], line)
                fines = [b for b in range(1, 100) if value(alike, looks, misdeeds, b) < Fraction(1, parts)]
                self.assertEqual(ask_last(f"{line}, finefor {parts}"), fines[:1] or [-33], line)

    def test_bounds(self):
        for line in (made_alike(2, 1, 1, 2), made_alike(2, 0, 1, 2), made_alike(2, 1, 1, 2) + ", evenday 1 1"):
            for parts in (0, 1001, MOST):
                self.assertEqual(last_of(line, (f"looksfor {parts}", f"finefor {parts}")), [[-22], [-22]])


class NothingChanged(unittest.TestCase):
    def test_what_is_told_changes_nothing(self):
        line = laid_out((1, 2, 1), 1, 2, 2) + ", toeven, evenday 0 1"
        probes = ("left", "evengain", "told", "gain", "plans", "past")
        before = last_of(line, probes)
        calls = CALLS + ("worthof 8 4 4", "worthof 0 0 0", "eveniffine 9", "eveniffine 0", "iflook 7", "iflook 101",
                         "ifdare 7", "ifdare 101", "looked 1", "looked 9", "spare 1", "spare 9", "looksfor 5",
                         "looksfor 0", "finefor 5", "finefor 0")
        self.assertEqual(last_of(line, calls + probes)[-len(probes):], before)


if __name__ == "__main__":
    unittest.main()
