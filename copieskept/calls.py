"""The calls on one calendar: what is refused, what is done, and what is answered."""

from copieskept.changes import SET_FIELD, TAKE_OUT
from copieskept.device import Device
from copieskept.ledger import House

DEVICES = 3
FIELDS = 3
LARGEST = 999

MAKE = 0
SET = 1
REMOVE = 2
PUSH = 3
FORGET = 5

OUT_OF_BOUNDS = -1
NO_DEVICE = -3
NOT_SHOWN = -4
FULL = -5
NOTHING_WAITS = -6

NOTHING_ANSWERED = 0
DONE = 1
NOT_DONE = 2
MORE_KNOWN = 1
TOLD_ANEW = 2

PUSH_LOST = 1
PUSH_ANSWER_LOST = 2
PULL_LOST = 1


class Calendar:
    def __init__(self):
        self.house = House()
        self.devices = [Device(number) for number in range(DEVICES)]

    def answer(self, call, given):
        if call == FORGET:
            return forget(self.house, given[0])
        if given[0] >= DEVICES:
            return [NO_DEVICE]
        return answer_on_device(self.house, self.devices[given[0]], call, given[1:])


def answer_on_device(house, device, call, given):
    if call == MAKE:
        return make_date(device, given)
    if call == SET:
        return set_field(house, device, given[0], given[1], given[2])
    if call == REMOVE:
        return take_out(house, device, given[0])
    if call == PUSH:
        return push(house, device, given[0])
    return pull(house, device, given[0])


def make_date(device, fields):
    if max(fields) > LARGEST:
        return [OUT_OF_BOUNDS]
    if device.is_full():
        return [FULL]
    return [device.add_date(fields)]


def set_field(house, device, date, field, what):
    if field >= FIELDS or what > LARGEST:
        return [OUT_OF_BOUNDS]
    return change_shown(house, device, SET_FIELD, date, field, what)


def take_out(house, device, date):
    return change_shown(house, device, TAKE_OUT, date, 0, 0)


def change_shown(house, device, kind, date, field, what):
    if date not in device.shown(house):
        return [NOT_SHOWN]
    if device.is_full():
        return [FULL]
    return [device.add_change(kind, date, field, what, [])]


def push(house, device, how):
    if how > PUSH_ANSWER_LOST:
        return [OUT_OF_BOUNDS]
    if len(device.waiting) == 0:
        return [NOTHING_WAITS]
    if how == PUSH_LOST:
        return [NOTHING_ANSWERED]
    house.receive(device.waiting[0])
    if how == PUSH_ANSWER_LOST:
        return [NOTHING_ANSWERED]
    outcome = house.last_outcomes[device.number]
    device.hear(outcome)
    return [DONE if outcome.done else NOT_DONE]


def pull(house, device, how):
    if how > PULL_LOST:
        return [OUT_OF_BOUNDS]
    if how == PULL_LOST:
        return [NOTHING_ANSWERED]
    knew = device.knows
    known = len(house.changes)
    device.learn(known)
    if knew < house.floor:
        return [TOLD_ANEW, len(house.dates())]
    return [MORE_KNOWN, known - knew]


def forget(house, floor):
    if floor > len(house.changes) or floor < house.floor:
        return [OUT_OF_BOUNDS]
    house.floor = floor
    return [floor]
