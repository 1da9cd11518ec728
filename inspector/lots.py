"""Plans drawn by lot, and the best answer to them. A plan is a pair: its set of days, its weight."""

from inspector.ratio import ratio


def has_day(chosen, t):
    return chosen >> t & 1 == 1


def is_beyond(chosen, days):
    """Whether a set tells of a day behind the first so many."""
    return chosen >> days != 0


def size(chosen):
    """How many days a set has."""
    count = 0
    while chosen > 0:
        count += chosen & 1
        chosen = chosen >> 1
    return count


def multiplied(fine, times):
    """The fine multiplied by itself so often; 1, if it isn't at all."""
    product = 1
    for again in range(times):
        product *= fine
    return product


def best_plan(days, looks, fine):
    """The sets of at most so many days, by their numbers, each as heavy as it has looks to spare."""
    return [
        (chosen, multiplied(fine, looks - size(chosen)))
        for chosen in range(1 << days)
        if size(chosen) <= looks
    ]


def all_weights(plans):
    return sum([each[1] for each in plans])


def share(some, plans):
    """How likely one of some plans is drawn of all plans, of which there's at least one."""
    return ratio(all_weights(some), all_weights(plans))


def looking_on(plans, t):
    return [each for each in plans if has_day(each[0], t)]


def not_looking_on(plans, t):
    return [each for each in plans if not has_day(each[0], t)]


class Answerer:
    """The other, who knows the lots, and sees of each day, behind it, whether it was looked at.

    What comes of an answer is a pair: how many misdeeds are done unseen, how often the other's caught, both
    counted by the weights of the plans by which it's so. These are whole numbers, and add up over plans.
    """

    def __init__(self, days, fine):
        self.days = days
        self.fine = fine

    def got(self, outcome):
        return outcome[0] - self.fine * outcome[1]

    def best(self, plans, t, misdeeds):
        """What comes of the best answer from day t on; plans are those that what's been seen leaves."""
        if t == self.days or misdeeds == 0 or not plans:
            return (0, 0)
        daring = self.if_dared(plans, t, misdeeds)
        waiting = self.if_waited(plans, t, misdeeds)
        # Where to dare gets as much as to wait, they dare.
        return waiting if self.got(daring) < self.got(waiting) else daring

    def if_dared(self, plans, t, misdeeds):
        """What comes of daring on day t, with a misdeed left; seen, nothing comes behind."""
        unlooked = not_looking_on(plans, t)
        behind = self.best(unlooked, t + 1, misdeeds - 1)
        return (all_weights(unlooked) + behind[0], all_weights(looking_on(plans, t)) + behind[1])

    def if_waited(self, plans, t, misdeeds):
        looked = self.best(looking_on(plans, t), t + 1, misdeeds)
        unlooked = self.best(not_looking_on(plans, t), t + 1, misdeeds)
        return (looked[0] + unlooked[0], looked[1] + unlooked[1])

    def best_got(self, plans, t, misdeeds):
        """What the best answer gets in the mean, of at least one plan."""
        return ratio(self.got(self.best(plans, t, misdeeds)), all_weights(plans))
