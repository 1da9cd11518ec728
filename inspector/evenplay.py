"""What a season of days alike comes to, if both play best."""

from inspector.lots import best_plan, looking_on, share
from inspector.outlook import Outlook, add_chance
from inspector.ratio import ONE, ZERO, greater, lesser, minus, mixed, plus, times


def even_outlook(days, fine):
    """Days alike are worth as much as days that bring one each."""
    return Outlook([1] * days, fine)


def even_worth(days, looks, misdeeds, fine):
    return even_outlook(days, fine).worth(0, looks, misdeeds)


def best_look(days, looks, fine):
    """The inspector's best chance on the first of so many days."""
    plans = best_plan(days, looks, fine)
    return share(looking_on(plans, 0), plans)


class EvenChances:
    """How likely both act on each of the days alike, as it's told of these."""

    def __init__(self, days, fine):
        self.days = [1] * days
        self.fine = fine
        self.outlook = even_outlook(days, fine)

    def look_chance(self, t, looks, misdeeds):
        """Whatever misdeeds are left; in_the_end asks with them."""
        return best_look(len(self.days) - t, looks, self.fine)

    def dare_chance(self, t, looks, misdeeds):
        # Without looks they dare at once, where on days that aren't alike they'd wait if that gets as much.
        if looks == 0 and misdeeds > 0:
            return ONE
        return self.outlook.dare_chance(t, looks, misdeeds)


def most_if_looked(outlook, looks, misdeeds, chance):
    """What the other can gain at most, if the first day is looked at with this chance."""
    if misdeeds == 0:
        return ZERO
    daring = mixed(chance, outlook.seen(), outlook.unseen(0, looks, misdeeds))
    waiting = outlook.neither(0, looks, misdeeds)
    if looks > 0:
        waiting = mixed(chance, outlook.waited(0, looks, misdeeds), waiting)
    return greater(daring, waiting)


def least_if_dared(outlook, looks, misdeeds, chance):
    """What the other gains at the least, if they dare on the first day with this chance."""
    if misdeeds == 0:
        return ZERO
    unlooked = mixed(chance, outlook.unseen(0, looks, misdeeds), outlook.neither(0, looks, misdeeds))
    if looks == 0:
        return unlooked
    return lesser(mixed(chance, outlook.seen(), outlook.waited(0, looks, misdeeds)), unlooked)


def looks_left(days, looks, fine, passed):
    """A dict: how likely each number of looks is left behind so many of the days, if nobody's caught."""
    chances = {looks: ONE}
    for t in range(passed):
        later = {}
        for left, chance in chances.items():
            looking = best_look(days - t, left, fine)
            if looking != ZERO:
                add_chance(later, left - 1, times(chance, looking))
            add_chance(later, left, times(chance, minus(ONE, looking)))
        chances = later
    return chances


def looked_at(days, looks, fine, t):
    """How likely day t is looked at, if nobody's caught before."""
    together = ZERO
    for left, chance in looks_left(days, looks, fine, t).items():
        together = plus(together, times(chance, best_look(days - t, left, fine)))
    return together
