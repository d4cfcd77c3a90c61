"""The house: the changes that were done, and what became of the last one of each device."""

from copieskept.changes import MAKE_DATE, dates_behind, stands_against


# What came of a change; `place` is how many changes were done ahead of it.
class Outcome:
    def __init__(self, count, done, place, change):
        self.count = count
        self.done = done
        self.place = place
        self.change = change


class House:
    def __init__(self):
        self.changes = []
        self.dates_made = 0
        self.floor = 0
        self.last_outcomes = {}

    def dates(self):
        return dates_behind(self.changes)

    def last_count(self, device):
        if device not in self.last_outcomes:
            return 0
        return self.last_outcomes[device].count

    def can_be_done(self, change):
        if change.kind == MAKE_DATE:
            return True
        if change.date not in self.dates():
            return False
        # Forgetting doesn't narrow this: the house has all changes, below the floor too.
        return not any([stands_against(other, change) for other in self.changes[change.knew:]])

    def receive(self, change):
        if change.count <= self.last_count(change.device):
            return
        place = len(self.changes)
        done = self.can_be_done(change)
        if done:
            change = self.numbered(change)
            self.changes.append(change)
        self.last_outcomes[change.device] = Outcome(change.count, done, place, change)

    def numbered(self, change):
        if change.kind != MAKE_DATE:
            return change
        number = self.dates_made
        self.dates_made += 1
        return change.with_date(number)
