"""The calls about the season of days that aren't alike: 10 to 30."""

from inspector.outlook import Outlook, in_the_end
from inspector.ratio import ZERO, is_less, told_ratios
from inspector.refusals import FULL, NO_SUCH, NOT_POSSIBLE, NOTHING_THERE, OUT_OF_BOUNDS

MOST_DAYS = 4
MOST_BROUGHT = 3
MOST_LEFT = 5
MOST_FINE = 3


def is_fine(amount):
    return 1 <= amount <= MOST_FINE


def season_outlook(season):
    return Outlook(season.days, season.fine)


def season_worth(season):
    return season_outlook(season).worth(0, season.looks, season.misdeeds)


def day(whole, amount):
    days = whole.season.days
    if amount > MOST_BROUGHT:
        return [OUT_OF_BOUNDS]
    if len(days) == MOST_DAYS:
        return [FULL]
    days.append(amount)
    return [len(days) - 1]


def drop(whole):
    days = whole.season.days
    if not days:
        return [NOTHING_THERE]
    days.pop()
    return [len(days)]


def refused_brings(season, t, amount):
    """The refusal of day t's bringing so much, or 0 if it may."""
    if t >= len(season.days):
        return NO_SUCH
    if amount > MOST_BROUGHT:
        return OUT_OF_BOUNDS
    return 0


def brings(whole, t, amount):
    season = whole.season
    refusal = refused_brings(season, t, amount)
    if refusal:
        return [refusal]
    was = season.days[t]
    season.days[t] = amount
    return [was]


def looks(whole, amount):
    if amount > MOST_LEFT:
        return [OUT_OF_BOUNDS]
    season = whole.season
    was = season.looks
    season.looks = amount
    return [was]


def misdeeds(whole, amount):
    if amount > MOST_LEFT:
        return [OUT_OF_BOUNDS]
    season = whole.season
    was = season.misdeeds
    season.misdeeds = amount
    return [was]


def fine(whole, amount):
    if not is_fine(amount):
        return [OUT_OF_BOUNDS]
    season = whole.season
    was = season.fine
    season.fine = amount
    return [was]


def worth(whole):
    return told_ratios([season_worth(whole.season)])


def look(whole):
    season = whole.season
    if not season.days:
        return [NOTHING_THERE]
    return told_ratios([season_outlook(season).look_chance(0, season.looks, season.misdeeds)])


def dare(whole):
    season = whole.season
    if not season.days:
        return [NOTHING_THERE]
    return told_ratios([season_outlook(season).dare_chance(0, season.looks, season.misdeeds)])


def refused_from(season, t, looks_left, misdeeds_left):
    """The refusal of asking from day t on with so many left, or 0 if it may be asked."""
    if t >= len(season.days):
        return NO_SUCH
    if looks_left > MOST_LEFT or misdeeds_left > MOST_LEFT:
        return OUT_OF_BOUNDS
    return 0


def from_day(whole, t, looks_left, misdeeds_left):
    refusal = refused_from(whole.season, t, looks_left, misdeeds_left)
    if refusal:
        return [refusal]
    return told_ratios([season_outlook(whole.season).worth(t, looks_left, misdeeds_left)])


def lookfrom(whole, t, looks_left, misdeeds_left):
    refusal = refused_from(whole.season, t, looks_left, misdeeds_left)
    if refusal:
        return [refusal]
    return told_ratios([season_outlook(whole.season).look_chance(t, looks_left, misdeeds_left)])


def darefrom(whole, t, looks_left, misdeeds_left):
    refusal = refused_from(whole.season, t, looks_left, misdeeds_left)
    if refusal:
        return [refusal]
    return told_ratios([season_outlook(whole.season).dare_chance(t, looks_left, misdeeds_left)])


def four(whole):
    season = whole.season
    if not season.days or season.looks == 0 or season.misdeeds == 0:
        return [NOTHING_THERE]
    return told_ratios(season_outlook(season).four(0, season.looks, season.misdeeds))


def caught(whole):
    season = whole.season
    return told_ratios([in_the_end(season_outlook(season), season.looks, season.misdeeds)[0]])


def brought(whole):
    season = whole.season
    return told_ratios([in_the_end(season_outlook(season), season.looks, season.misdeeds)[1]])


def ifbrings(whole, t, amount):
    refusal = refused_brings(whole.season, t, amount)
    if refusal:
        return [refusal]
    supposed = whole.season.copied()
    supposed.days[t] = amount
    return told_ratios([season_worth(supposed)])


def iflooks(whole, amount):
    if amount > MOST_LEFT:
        return [OUT_OF_BOUNDS]
    supposed = whole.season.copied()
    supposed.looks = amount
    return told_ratios([season_worth(supposed)])


def iffine(whole, amount):
    if not is_fine(amount):
        return [OUT_OF_BOUNDS]
    supposed = whole.season.copied()
    supposed.fine = amount
    return told_ratios([season_worth(supposed)])


def without(whole, t):
    if t >= len(whole.season.days):
        return [NO_SUCH]
    supposed = whole.season.copied()
    supposed.days.pop(t)
    return told_ratios([season_worth(supposed)])


def firstday(whole):
    season = whole.season
    outlook = season_outlook(season)
    for t in range(len(season.days)):
        if is_less(ZERO, outlook.dare_chance(t, season.looks, season.misdeeds)):
            return [t]
    return [NOT_POSSIBLE]


def told(whole):
    season = whole.season
    return [len(season.days), season.looks, season.misdeeds, season.fine] + season.days


DAYS_CALLS = (
    day, drop, brings, looks, misdeeds, fine, worth, look, dare, from_day, lookfrom, darefrom, four,
    caught, brought, ifbrings, iflooks, iffine, without, firstday, told,
)
