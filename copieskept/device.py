"""A device: what it knows of, and the changes that were made on it."""

from copieskept.changes import MAKE_DATE, Change, dates_behind

MOST_MADE = 99
MOST_WAITING = 20


class Device:
    def __init__(self, number):
        self.number = number
        self.knows = 0
        self.made = 0
        self.waiting = []
        self.answered = []
        self.clashes = []

    def is_full(self):
        return self.made >= MOST_MADE or len(self.waiting) >= MOST_WAITING

    def shown(self, house):
        return dates_behind(house.changes[:self.knows] + self.answered + self.waiting)

    def add_change(self, kind, date, field, what, fields):
        self.made += 1
        self.waiting.append(Change(self.number, self.made, self.knows, kind, date, field, what, fields))
        return self.made

    def add_date(self, fields):
        number = 1000 + 100 * self.number + self.made + 1
        self.add_change(MAKE_DATE, number, 0, 0, fields)
        return number

    def hear(self, outcome):
        change = self.waiting.pop(0)
        if not outcome.done:
            self.clashes.append(change)
            return
        if change.kind == MAKE_DATE:
            self.renumber(change.date, outcome.change.date)
        # A change that came, and whose answer got lost, may have been pulled meanwhile.
        if outcome.place >= self.knows:
            self.answered.append(outcome.change)

    def renumber(self, old, new):
        self.waiting = [change.with_date(new) if change.date == old else change for change in self.waiting]

    def learn(self, known):
        self.knows = known
        self.answered = []
