"""The numbers by which a call is refused, and the refusal that both seasons share."""

NO_SUCH = -2
NOTHING_THERE = -6
NOT_BEGUN = -11
OUT_OF_BOUNDS = -22
FULL = -28
NOT_POSSIBLE = -33


def refused_play(is_over, looks, misdeeds, looked, dared):
    """The refusal of a day played so, or 0 if it can be played."""
    if is_over:
        return NOTHING_THERE
    if looked > 1 or dared > 1:
        return OUT_OF_BOUNDS
    if looked > looks or dared > misdeeds:
        return NOT_POSSIBLE
    return 0
