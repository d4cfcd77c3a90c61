"""The calls as the tests write them, and their answers one list a call."""

from copieskept.calls import Calendar
from copieskept.house import answers


def make(device, a=1, b=2, c=3):
    return [0, device, a, b, c]


def set_(device, date, field, what):
    return [1, device, date, field, what]


def remove(device, date):
    return [2, device, date]


def push(device, how=0):
    return [3, device, how]


def pull(device, how=0):
    return [4, device, how]


def forget(n):
    return [5, n]


def told(*calls):
    numbers = answers([number for call in calls for number in call])
    rows = []
    while numbers:
        size = numbers[0]
        rows.append(numbers[1:1 + size])
        numbers = numbers[1 + size:]
    if len(rows) != len(calls):
        raise AssertionError(f"{len(calls)} calls, {len(rows)} answers")
    return rows


def last(*calls):
    return told(*calls)[-1]


def calendar_behind(*calls):
    """The calendar itself, for what no call of these tells: fields, clashes, what is answered."""
    calendar = Calendar()
    for call in calls:
        calendar.answer(call[0], call[1:])
    return calendar


def shown(device, *calls):
    calendar = calendar_behind(*calls)
    dates = calendar.devices[device].shown(calendar.house)
    return [[number] + fields for number, fields in dates.items()]


def at_house(*calls):
    dates = calendar_behind(*calls).house.dates()
    return [[number] + fields for number, fields in dates.items()]


# Date 0, with fields 10, 20, 30, is made by device 0, and all three devices know of it.
SHARED_DATE = (make(0, 10, 20, 30), push(0), pull(0), pull(1), pull(2))
