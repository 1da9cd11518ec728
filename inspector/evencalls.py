"""The calls about the season of days alike: 31 to 46."""

from inspector.evenplay import EvenChances, even_worth, least_if_dared, looked_at, looks_left, most_if_looked
from inspector.outlook import in_the_end
from inspector.ratio import ZERO, is_less, ratio, told_ratios
from inspector.refusals import NOT_POSSIBLE, NOTHING_THERE, OUT_OF_BOUNDS, refused_play

MOST_DAYS = 8
MOST_FINE = 9
MOST_FINE_SOUGHT = 99
MOST_PARTS = 1000
MOST_CHANCES = 100


def alike_worth(alike, fine):
    return even_worth(alike.days, alike.looks, alike.misdeeds, fine)


def alike_chances(alike):
    return EvenChances(alike.days, alike.fine)


def alike_end(alike):
    return in_the_end(alike_chances(alike), alike.looks, alike.misdeeds)


def is_parts(parts):
    return 1 <= parts <= MOST_PARTS


def refused_chance(alike, chances, left_over):
    """The refusal of acting today with so many chances of 100, or 0 if it may be."""
    if alike.days == 0:
        return NOTHING_THERE
    if chances > MOST_CHANCES:
        return OUT_OF_BOUNDS
    if chances > 0 and left_over == 0:
        return NOT_POSSIBLE
    return 0


def evenday(whole, look, dare):
    alike = whole.alike
    refusal = refused_play(alike.days == 0, alike.looks, alike.misdeeds, look, dare)
    if refusal:
        return [refusal]
    alike.days -= 1
    alike.looks -= look
    alike.misdeeds -= dare
    if look and dare:
        alike.gained -= alike.fine
        alike.caught = 1
        # Nothing comes behind: of the caught no days are told.
        alike.days = 0
    elif dare:
        alike.gained += 1
    return [0, alike.gained]


def evengain(whole):
    return [whole.alike.caught, whole.alike.gained]


def left(whole):
    alike = whole.alike
    return [alike.days, alike.looks, alike.misdeeds, alike.fine]


def evenworth(whole):
    return told_ratios([alike_worth(whole.alike, whole.alike.fine)])


def evenlook(whole):
    alike = whole.alike
    if alike.days == 0:
        return [NOTHING_THERE]
    return told_ratios([alike_chances(alike).look_chance(0, alike.looks, alike.misdeeds)])


def evendare(whole):
    alike = whole.alike
    if alike.days == 0:
        return [NOTHING_THERE]
    return told_ratios([alike_chances(alike).dare_chance(0, alike.looks, alike.misdeeds)])


def worthof(whole, days, looks, misdeeds):
    if not 1 <= days <= MOST_DAYS or looks > days or misdeeds > days:
        return [OUT_OF_BOUNDS]
    return told_ratios([even_worth(days, looks, misdeeds, whole.alike.fine)])


def eveniffine(whole, fine):
    if not 1 <= fine <= MOST_FINE:
        return [OUT_OF_BOUNDS]
    return told_ratios([alike_worth(whole.alike, fine)])


def iflook(whole, chances):
    alike = whole.alike
    refusal = refused_chance(alike, chances, alike.looks)
    if refusal:
        return [refusal]
    outlook = alike_chances(alike).outlook
    return told_ratios([most_if_looked(outlook, alike.looks, alike.misdeeds, ratio(chances, MOST_CHANCES))])


def ifdare(whole, chances):
    alike = whole.alike
    refusal = refused_chance(alike, chances, alike.misdeeds)
    if refusal:
        return [refusal]
    outlook = alike_chances(alike).outlook
    return told_ratios([least_if_dared(outlook, alike.looks, alike.misdeeds, ratio(chances, MOST_CHANCES))])


def evencaught(whole):
    return told_ratios([alike_end(whole.alike)[0]])


def done(whole):
    return told_ratios([alike_end(whole.alike)[1]])


def looked(whole, t):
    alike = whole.alike
    if t >= alike.days:
        return [OUT_OF_BOUNDS]
    return told_ratios([looked_at(alike.days, alike.looks, alike.fine, t)])


def spare(whole, looks):
    alike = whole.alike
    if looks > alike.looks:
        return [OUT_OF_BOUNDS]
    chances = looks_left(alike.days, alike.looks, alike.fine, alike.days)
    return told_ratios([chances.get(looks, ZERO)])


def looksfor(whole, parts):
    alike = whole.alike
    if not is_parts(parts):
        return [OUT_OF_BOUNDS]
    looks = 0
    # As many looks as days leave nothing to gain, so this comes to an end.
    while not is_less(even_worth(alike.days, looks, alike.misdeeds, alike.fine), ratio(1, parts)):
        looks += 1
    return [looks]


def finefor(whole, parts):
    if not is_parts(parts):
        return [OUT_OF_BOUNDS]
    for fine in range(1, MOST_FINE_SOUGHT + 1):
        if is_less(alike_worth(whole.alike, fine), ratio(1, parts)):
            return [fine]
    return [NOT_POSSIBLE]


EVEN_CALLS = (
    evenday, evengain, left, evenworth, evenlook, evendare, worthof, eveniffine, iflook, ifdare, evencaught, done,
    looked, spare, looksfor, finefor,
)
