"""The calls about the whole: 0 to 9."""

from inspector.dayscalls import MOST_LEFT, is_fine, season_outlook, season_worth
from inspector.ratio import from_whole, plus, told_ratios
from inspector.refusals import NOT_POSSIBLE, NOTHING_THERE, OUT_OF_BOUNDS, refused_play
from inspector.whole import Alike, Table


def is_over(season):
    return not season.days or season.caught == 1


def season_mean(season):
    if season.caught:
        return from_whole(season.has)
    return plus(from_whole(season.has), season_worth(season))


def refused_season_play(season, looked, dared):
    return refused_play(is_over(season), season.looks, season.misdeeds, looked, dared)


def play_day(season, looked, dared):
    """Play day 0, which is known to be possible."""
    amount = season.days.pop(0)
    season.looks -= looked
    season.misdeeds -= dared
    if looked and dared:
        season.has -= season.fine
        season.caught = 1
    elif dared:
        season.has += amount


def begin(whole, looks, misdeeds, fine):
    if looks > MOST_LEFT or misdeeds > MOST_LEFT or not is_fine(fine):
        return [OUT_OF_BOUNDS]
    whole.begin(looks, misdeeds, fine)
    return [0]


def play(whole, looked, dared):
    season = whole.season
    refusal = refused_season_play(season, looked, dared)
    if refusal:
        return [refusal]
    play_day(season, looked, dared)
    return [0, season.has]


def mean(whole):
    return told_ratios([season_mean(whole.season)])


def ifplayed(whole, looked, dared):
    refusal = refused_season_play(whole.season, looked, dared)
    if refusal:
        return [refusal]
    supposed = whole.season.copied()
    play_day(supposed, looked, dared)
    return told_ratios([season_mean(supposed)])


def best(whole):
    season = whole.season
    if is_over(season):
        return [NOTHING_THERE]
    outlook = season_outlook(season)
    looking = outlook.look_chance(0, season.looks, season.misdeeds)
    daring = outlook.dare_chance(0, season.looks, season.misdeeds)
    return told_ratios([looking, daring])


def gain(whole):
    return [whole.season.caught, whole.season.has]


def toeven(whole):
    season = whole.season
    days = len(season.days)
    if is_over(season) or season.looks > days or season.misdeeds > days:
        return [NOT_POSSIBLE]
    whole.alike = Alike(days, season.looks, season.misdeeds, season.fine)
    return [days]


def toplans(whole):
    season = whole.season
    days = len(season.days)
    if is_over(season):
        return [NOT_POSSIBLE]
    whole.table = Table(days, season.misdeeds, season.fine)
    return [days]


def undo(whole):
    if not whole.kept:
        return [NOTHING_THERE]
    whole.take_back()
    return [len(whole.kept)]


def past(whole):
    return [len(whole.kept)]


WHOLE_CALLS = (begin, play, mean, ifplayed, best, gain, toeven, toplans, undo, past)
