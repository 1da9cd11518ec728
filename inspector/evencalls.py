"""The calls about the season of days alike: 31 and those behind it."""

from inspector.refusals import refused_play


def evenday(whole, looked, dared):
    alike = whole.alike
    refusal = refused_play(alike.days == 0, alike.looks, alike.misdeeds, looked, dared)
    if refusal:
        return [refusal]
    alike.days -= 1
    alike.looks -= looked
    alike.misdeeds -= dared
    if looked and dared:
        alike.gained -= alike.fine
        alike.caught = 1
        # Nothing comes behind: of the caught no days are told.
        alike.days = 0
    elif dared:
        alike.gained += 1
    return [0, alike.gained]


def evengain(whole):
    return [whole.alike.caught, whole.alike.gained]


def left(whole):
    alike = whole.alike
    return [alike.days, alike.looks, alike.misdeeds, alike.fine]


EVEN_CALLS = (evenday, evengain, left)
