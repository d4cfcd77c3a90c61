"""The calls on one calendar: what is refused, what is done, and what is answered."""

from copieskept.changes import SET_FIELD, TAKE_OUT
from copieskept.device import Device
from copieskept.ledger import House

DEVICES = 3
FIELDS = 3
LARGEST = 999

MAKE = 0
SET = 1
REMOVE = 2
PUSH = 3
PULL = 4
FORGET = 5
SHOWN = 6
HOUSE = 7
CLASHES = 8
SETTLE = 9

OUT_OF_BOUNDS = -1
DATE_GONE = -2
NO_DEVICE = -3
NOT_SHOWN = -4
NO_CLASH = -4
FULL = -5
NOTHING_WAITS = -6

NOTHING_ANSWERED = 0
DONE = 1
NOT_DONE = 2
MORE_KNOWN = 1
TOLD_ANEW = 2

PUSH_LOST = 1
PUSH_ANSWER_LOST = 2
PULL_LOST = 1

LET_GO = 0
ONCE_MORE = 1


class Calendar:
    def __init__(self):
        self.house = House()
        self.devices = [Device(number) for number in range(DEVICES)]

    def answer(self, call, given):
        if call == FORGET:
            return forget(self.house, given[0])
        if call == HOUSE:
            return told_dates(self.house.dates())
        if given[0] >= DEVICES:
            return [NO_DEVICE]
        return answer_on_device(self.house, self.devices[given[0]], call, given[1:])


def answer_on_device(house, device, call, given):
    if call == MAKE:
        return make_date(device, given)
    if call == SET:
        return set_field(house, device, given[0], given[1], given[2])
    if call == REMOVE:
        return take_out(house, device, given[0])
    if call == PUSH:
        return push(house, device, given[0])
    if call == PULL:
        return pull(house, device, given[0])
    if call == SHOWN:
        return told_dates(device.shown(house))
    if call == CLASHES:
        return told_clashes(device.clashes)
    if call == SETTLE:
        return settle(house, device, given[0], given[1])
    return told_state(house, device)


def make_date(device, fields):
    if max(fields) > LARGEST:
        return [OUT_OF_BOUNDS]
    if device.is_full():
        return [FULL]
    return [device.add_date(fields)]


def set_field(house, device, date, field, what):
    if field >= FIELDS or what > LARGEST:
        return [OUT_OF_BOUNDS]
    return change_shown(house, device, SET_FIELD, date, field, what)


def take_out(house, device, date):
    return change_shown(house, device, TAKE_OUT, date, 0, 0)


def change_shown(house, device, kind, date, field, what):
    if date not in device.shown(house):
        return [NOT_SHOWN]
    if device.is_full():
        return [FULL]
    return [device.add_change(kind, date, field, what, [])]


def push(house, device, how):
    if how > PUSH_ANSWER_LOST:
        return [OUT_OF_BOUNDS]
    if len(device.waiting) == 0:
        return [NOTHING_WAITS]
    if how == PUSH_LOST:
        return [NOTHING_ANSWERED]
    house.receive(device.waiting[0])
    if how == PUSH_ANSWER_LOST:
        return [NOTHING_ANSWERED]
    outcome = house.last_outcomes[device.number]
    device.hear(outcome)
    return [DONE if outcome.done else NOT_DONE]


def pull(house, device, how):
    if how > PULL_LOST:
        return [OUT_OF_BOUNDS]
    if how == PULL_LOST:
        return [NOTHING_ANSWERED]
    knew = device.knows
    known = len(house.changes)
    device.learn(known)
    if knew < house.floor:
        return [TOLD_ANEW, len(house.dates())]
    return [MORE_KNOWN, known - knew]


def forget(house, floor):
    if floor > len(house.changes) or floor < house.floor:
        return [OUT_OF_BOUNDS]
    house.floor = floor
    return [floor]


def told_dates(dates):
    told = [len(dates)]
    for number in dates:
        told.append(number)
        told.extend(dates[number])
    return told


# A date that is made can't clash, so the kind is that of a field set or of a date taken out.
def told_clashes(clashes):
    told = [len(clashes)]
    for clash in clashes:
        told.extend([clash.count, clash.kind, clash.date, clash.field, clash.what])
    return told


def told_state(house, device):
    return [
        device.knows,
        len(house.changes),
        device.made,
        len(device.waiting),
        len(device.answered),
        len(device.clashes),
    ]


def settle(house, device, which, again):
    if again > ONCE_MORE:
        return [OUT_OF_BOUNDS]
    if which >= len(device.clashes):
        return [NO_CLASH]
    if again == ONCE_MORE:
        return settle_once_more(house, device, which)
    device.clashes.pop(which)
    return [LET_GO]


def settle_once_more(house, device, which):
    clash = device.clashes[which]
    if clash.date not in device.shown(house):
        return [DATE_GONE]
    if device.is_full():
        return [FULL]
    device.clashes.pop(which)
    return [device.add_change(clash.kind, clash.date, clash.field, clash.what, [])]
