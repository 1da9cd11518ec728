"""All that a line's calls are about, and what's kept to take changes back."""

MOST_KEPT = 12


class Season:
    """The days still to come, what's left for them, and what the other has so far."""

    def __init__(self, looks, misdeeds, fine):
        self.days = []
        self.looks = looks
        self.misdeeds = misdeeds
        self.fine = fine
        self.has = 0
        self.caught = 0

    def facts(self):
        return (list(self.days), self.looks, self.misdeeds, self.fine, self.has, self.caught)

    def copied(self):
        other = Season(self.looks, self.misdeeds, self.fine)
        other.days = list(self.days)
        other.has = self.has
        other.caught = self.caught
        return other


class Alike:
    """The season of days alike: how many are to come, what's left for them, what's gained."""

    def __init__(self, days, looks, misdeeds, fine):
        self.days = days
        self.looks = looks
        self.misdeeds = misdeeds
        self.fine = fine
        self.gained = 0
        self.caught = 0

    def facts(self):
        return (self.days, self.looks, self.misdeeds, self.fine, self.gained, self.caught)

    def copied(self):
        other = Alike(self.days, self.looks, self.misdeeds, self.fine)
        other.gained = self.gained
        other.caught = self.caught
        return other


class Table:
    """The table of plans: its days, misdeeds and fine, and the plans told, each a pair."""

    def __init__(self, days, misdeeds, fine):
        self.days = days
        self.misdeeds = misdeeds
        self.fine = fine
        self.plans = []

    def facts(self):
        return (self.days, self.misdeeds, self.fine, list(self.plans))

    def copied(self):
        other = Table(self.days, self.misdeeds, self.fine)
        other.plans = list(self.plans)
        return other


class Whole:
    """The season, the alike season and the table; nothing of them before the first begin."""

    def __init__(self):
        self.season = None
        self.alike = None
        self.table = None
        self.kept = []

    def begin(self, looks, misdeeds, fine):
        self.season = Season(looks, misdeeds, fine)
        self.alike = Alike(1, 0, 0, fine)
        self.table = Table(1, misdeeds, fine)
        self.kept = []

    def parts(self):
        """Copies of all that a change may change."""
        return [self.season.copied(), self.alike.copied(), self.table.copied()]

    def keep_if_changed(self, before):
        """Keep what was before a call, if something isn't what it was."""
        if [part.facts() for part in before] == [part.facts() for part in self.parts()]:
            return
        self.kept.append(before)
        if len(self.kept) > MOST_KEPT:
            self.kept.pop(0)

    def take_back(self):
        before = self.kept.pop()
        self.season = before[0]
        self.alike = before[1]
        self.table = before[2]
