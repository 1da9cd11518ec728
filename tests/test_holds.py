"""What holds, over many seasons; and the program held against a second reckoning."""

import unittest
from fractions import Fraction

from tests.helper import as_fraction, as_fractions, ask, drawn_chance, every_season, laid_out, today, value


class OverManySeasons(unittest.TestCase):
    def test_worth_is_the_value_of_the_game(self):
        for days, looks, misdeeds, fine in every_season(11):
            line = laid_out(days, looks, misdeeds, fine)
            self.assertEqual(as_fraction(ask(line + ", worth")[-1]), value(days, looks, misdeeds, fine), line)

    def test_four_are_today_s_cases(self):
        for days, looks, misdeeds, fine in every_season(37):
            if not (days and looks and misdeeds):
                continue
            line = laid_out(days, looks, misdeeds, fine)
            cases = today(days, looks, misdeeds, fine)
            self.assertEqual(as_fractions(ask(line + ", four")[-1]),
                             [cases[1, 1], cases[1, 0], cases[0, 1], cases[0, 0]], line)

    def test_both_chances_are_as_told(self):
        for days, looks, misdeeds, fine in every_season(13):
            if not days:
                continue
            line = laid_out(days, looks, misdeeds, fine)
            looking, daring = as_fractions(ask(line + ", best")[-1])
            self.assertEqual(ask(line + ", look, dare")[-2:],
                             [[0, looking.numerator, looking.denominator], [0, daring.numerator, daring.denominator]])
            cases = today(days, looks, misdeeds, fine)
            if not misdeeds or cases[0, 1] <= cases[0, 0]:
                self.assertEqual((looking, daring), (0, 0), line)
            elif not looks:
                self.assertEqual((looking, daring), (0, 1), line)
            else:
                self.assertEqual(looking * cases[1, 1] + (1 - looking) * cases[0, 1],
                                 looking * cases[1, 0] + (1 - looking) * cases[0, 0], line)
                self.assertEqual(daring * cases[1, 1] + (1 - daring) * cases[1, 0],
                                 daring * cases[0, 1] + (1 - daring) * cases[0, 0], line)

    def test_nobody_does_better_on_the_way(self):
        for days, looks, misdeeds, fine in every_season(17):
            if len(days) < 2:
                continue
            # A first day played makes the mean more than the worth alone.
            line = laid_out(days, looks, misdeeds, fine) + (", play 0 1" if misdeeds else ", play 0 0")
            misdeeds_left = misdeeds - 1 if misdeeds else 0
            mean = as_fraction(ask(line + ", mean")[-1])
            looking, daring = as_fractions(ask(line + ", best")[-1])
            means = {}
            for looked in (0, 1) if looks else (0,):
                for dared in (0, 1) if misdeeds_left else (0,):
                    means[looked, dared] = as_fraction(ask(f"{line}, ifplayed {looked} {dared}")[-1])
            for dared in {dared for looked, dared in means}:
                behind = looking * means.get((1, dared), 0) + (1 - looking) * means[0, dared]
                self.assertLessEqual(behind, mean, line)
            for looked in {looked for looked, dared in means}:
                behind = daring * means.get((looked, 1), 0) + (1 - daring) * means[looked, 0]
                self.assertGreaterEqual(behind, mean, line)

    def test_worth_is_what_is_brought_less_the_fine_as_often_as_caught(self):
        for days, looks, misdeeds, fine in every_season(11):
            line = laid_out(days, looks, misdeeds, fine)
            worth, caught, brought = [as_fraction(found) for found in ask(line + ", worth, caught, brought")[-3:]]
            self.assertEqual(worth, brought - fine * caught, line)
            self.assertTrue(0 <= caught <= 1 and 0 <= brought <= sum(days), line)

    def test_caught_and_brought_by_going_every_way(self):
        for days, looks, misdeeds, fine in every_season(101):
            line = laid_out(days, looks, misdeeds, fine)
            caught, brought = [as_fraction(found) for found in ask(line + ", caught, brought")[-2:]]
            self.assertEqual((caught, brought), every_way(line, days, looks, misdeeds), line)

    def test_a_day_that_brings_nothing_might_as_well_not_be(self):
        for days, looks, misdeeds, fine in every_season(19):
            for t, brings in enumerate(days):
                if brings == 0:
                    found = ask(laid_out(days, looks, misdeeds, fine) + f", worth, without {t}")
                    self.assertEqual(found[-2], found[-1])

    def test_suppositions_are_the_worth_of_such_a_season(self):
        for days, looks, misdeeds, fine in every_season(61):
            line = laid_out(days, looks, misdeeds, fine)
            found = ask(f"{line}, iflooks {(looks + 2) % 6}, iffine {fine % 3 + 1}")[-2:]
            self.assertEqual([as_fraction(each) for each in found],
                             [value(days, (looks + 2) % 6, misdeeds, fine), value(days, looks, misdeeds, fine % 3 + 1)])
            for t in range(len(days)):
                other = days[:t] + ((days[t] + 1) % 4,) + days[t + 1:]
                found = ask(f"{line}, ifbrings {t} {other[t]}, without {t}, from_day {t} {looks} {misdeeds}")[-3:]
                self.assertEqual([as_fraction(each) for each in found],
                                 [value(other, looks, misdeeds, fine),
                                  value(days[:t] + days[t + 1:], looks, misdeeds, fine),
                                  value(days[t:], looks, misdeeds, fine)])

    def test_the_first_day_on_which_to_dare(self):
        for days, looks, misdeeds, fine in every_season(47):
            line = laid_out(days, looks, misdeeds, fine)
            daring = [ask(f"{line}, darefrom {t} {looks} {misdeeds}")[-1] for t in range(len(days))]
            expected = [t for t, chance in enumerate(daring) if chance[1] > 0]
            self.assertEqual(ask(line + ", firstday")[-1], expected[:1] or [-33], line)

    def test_in_the_end_the_mean_is_what_the_other_has(self):
        for days, looks, misdeeds, fine in every_season(43):
            line = laid_out(days, looks, misdeeds, fine)
            for t in range(len(days)):
                line += f", play {int(t < looks and t % 2)} {int(t < misdeeds and t != 3)}"
            gain, mean = ask(line + ", gain, mean")[-2:]
            self.assertEqual(mean, [0, gain[1], 1])

    def test_all_numbers_are_below_the_bound(self):
        for days, looks, misdeeds, fine in every_season(53):
            for found in ask(laid_out(days, looks, misdeeds, fine) + ", worth, caught, brought")[-3:]:
                self.assertTrue(all(abs(number) < 2 ** 31 for number in found))


class DaysAlike(unittest.TestCase):
    def test_looking_is_as_when_to_look_tells(self):
        for length in (1, 2, 3, 4):
            for looks in range(1, length + 1):
                for fine in (1, 2, 3):
                    expected = drawn_chance(length, looks, fine)
                    for misdeeds in range(1, 6):
                        line = laid_out((1,) * length, looks, misdeeds, fine)
                        self.assertEqual(as_fraction(ask(line + ", look")[-1]), expected, line)


def every_way(line, days, looks, misdeeds, t=0):
    """How likely the other's caught and what's brought, through all ways that lookfrom and darefrom tell."""
    if t == len(days):
        return Fraction(0), Fraction(0)
    found = ask(f"{line}, lookfrom {t} {looks} {misdeeds}, darefrom {t} {looks} {misdeeds}")
    looking, daring = as_fraction(found[-2]), as_fraction(found[-1])
    caught, brought = looking * daring, (1 - looking) * daring * days[t]
    for chance, looks_left, misdeeds_left in (
        (looking * (1 - daring), looks - 1, misdeeds),
        ((1 - looking) * daring, looks, misdeeds - 1),
        ((1 - looking) * (1 - daring), looks, misdeeds),
    ):
        if chance:
            later = every_way(line, days, looks_left, misdeeds_left, t + 1)
            caught += chance * later[0]
            brought += chance * later[1]
    return caught, brought


if __name__ == "__main__":
    unittest.main()
