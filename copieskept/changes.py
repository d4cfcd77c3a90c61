"""A change of the calendar, and the dates that come of a row of changes."""

# Clashes are told with the first two of these.
SET_FIELD = 0
TAKE_OUT = 1
MAKE_DATE = 2


# A change is never altered once it's there: the house and the devices hold the same ones.
class Change:
    def __init__(self, device, count, knew, kind, date, field, what, fields):
        self.device = device
        self.count = count
        self.knew = knew
        self.kind = kind
        self.date = date
        self.field = field
        self.what = what
        self.fields = fields

    def with_date(self, date):
        return Change(self.device, self.count, self.knew, self.kind, date, self.field, self.what, self.fields)


def carry_out(dates, change):
    if change.kind == MAKE_DATE:
        dates[change.date] = list(change.fields)
    elif change.date not in dates:
        return
    elif change.kind == SET_FIELD:
        dates[change.date][change.field] = change.what
    else:
        dates.pop(change.date)


# A number is never given to a second date, so the dict's order is the order in which they were made.
def dates_behind(changes):
    dates = {}
    for change in changes:
        carry_out(dates, change)
    return dates


# Whether `other`, which the maker of `change` didn't know of, would be overwritten unseen.
def stands_against(other, change):
    if other.device == change.device or other.date != change.date:
        return False
    if other.kind == TAKE_OUT:
        return True
    return other.kind == SET_FIELD and (change.kind == TAKE_OUT or other.field == change.field)
