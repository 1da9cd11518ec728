"""What a season of days that aren't alike comes to, if both play best."""

from inspector.ratio import ONE, ZERO, divided, from_whole, is_less, minus, mixed, plus, times


class Outlook:
    """What each day on, with so many looks and misdeeds, is worth, and how likely both act there."""

    def __init__(self, days, fine):
        self.days = days
        self.fine = fine
        self.reckoned = {}

    def worth(self, t, looks, misdeeds):
        if t == len(self.days) or misdeeds == 0:
            return ZERO
        state = (t, looks, misdeeds)
        # Many ways lead to the same state: each is reckoned once.
        if state not in self.reckoned:
            self.reckoned[state] = self.reckon(t, looks, misdeeds)
        return self.reckoned[state]

    def reckon(self, t, looks, misdeeds):
        if not self.is_tempting(t, looks, misdeeds):
            return self.neither(t, looks, misdeeds)
        if looks == 0:
            return self.unseen(t, looks, misdeeds)
        chance = self.look_chance(t, looks, misdeeds)
        return mixed(chance, self.waited(t, looks, misdeeds), self.neither(t, looks, misdeeds))

    def seen(self):
        """Looked at, and dared."""
        return from_whole(-self.fine)

    def waited(self, t, looks, misdeeds):
        """Looked at, and not dared."""
        return self.worth(t + 1, looks - 1, misdeeds)

    def unseen(self, t, looks, misdeeds):
        """Not looked at, and dared."""
        return plus(from_whole(self.days[t]), self.worth(t + 1, looks, misdeeds - 1))

    def neither(self, t, looks, misdeeds):
        return self.worth(t + 1, looks, misdeeds)

    def four(self, t, looks, misdeeds):
        return [
            self.seen(),
            self.waited(t, looks, misdeeds),
            self.unseen(t, looks, misdeeds),
            self.neither(t, looks, misdeeds),
        ]

    def is_tempting(self, t, looks, misdeeds):
        """Whether to dare unlooked gets more than neither does."""
        if misdeeds == 0:
            return False
        return is_less(self.neither(t, looks, misdeeds), self.unseen(t, looks, misdeeds))

    def look_chance(self, t, looks, misdeeds):
        if looks == 0 or not self.is_tempting(t, looks, misdeeds):
            return ZERO
        got_unlooked = minus(self.unseen(t, looks, misdeeds), self.neither(t, looks, misdeeds))
        lost_looked = minus(self.waited(t, looks, misdeeds), self.seen())
        return divided(got_unlooked, plus(got_unlooked, lost_looked))

    def dare_chance(self, t, looks, misdeeds):
        if not self.is_tempting(t, looks, misdeeds):
            return ZERO
        if looks == 0:
            return ONE
        look_wasted = minus(self.waited(t, looks, misdeeds), self.neither(t, looks, misdeeds))
        look_spared = minus(self.unseen(t, looks, misdeeds), self.seen())
        return divided(look_wasted, plus(look_wasted, look_spared))


def add_chance(chances, state, chance):
    chances[state] = plus(chances.get(state, ZERO), chance)


def in_the_end(outlook, looks, misdeeds):
    """How likely the other's caught, and what's brought unseen in the mean, as a pair."""
    caught = ZERO
    brought = ZERO
    chances = {(looks, misdeeds): ONE}
    for t, brings in enumerate(outlook.days):
        later = {}
        for state, chance in chances.items():
            looks_left = state[0]
            misdeeds_left = state[1]
            looking = outlook.look_chance(t, looks_left, misdeeds_left)
            daring = outlook.dare_chance(t, looks_left, misdeeds_left)
            looked_at = times(chance, looking)
            not_looked_at = times(chance, minus(ONE, looking))
            waiting = minus(ONE, daring)
            unseen = times(not_looked_at, daring)
            caught = plus(caught, times(looked_at, daring))
            brought = plus(brought, times(unseen, from_whole(brings)))
            add_chance(later, (looks_left - 1, misdeeds_left), times(looked_at, waiting))
            add_chance(later, (looks_left, misdeeds_left - 1), unseen)
            add_chance(later, (looks_left, misdeeds_left), times(not_looked_at, waiting))
        # A way that's never taken isn't followed: it might use up a look that isn't there.
        chances = dict([(state, later[state]) for state in later if later[state] != ZERO])
    return (caught, brought)
