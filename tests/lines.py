"""The calls as the tests write them, and their answers one list a call."""

from copieskept.calls import Calendar
from copieskept.house import answers


def make(device, a=1, b=2, c=3):
    return [0, device, a, b, c]


def set_(device, date, field, what):
    return [1, device, date, field, what]


def remove(device, date):
    return [2, device, date]


def push(device, how=0):
    return [3, device, how]


def pull(device, how=0):
    return [4, device, how]


def forget(n):
    return [5, n]


def shown(device):
    return [6, device]


def house():
    return [7]


def clashes(device):
    return [8, device]


def settle(device, which=0, again=0):
    return [9, device, which, again]


def state(device):
    return [10, device]


def told(*calls):
    numbers = answers([number for call in calls for number in call])
    rows = []
    while numbers:
        size = numbers[0]
        rows.append(numbers[1:1 + size])
        numbers = numbers[1 + size:]
    if len(rows) != len(calls):
        raise AssertionError(f"{len(calls)} calls, {len(rows)} answers")
    return rows


def last(*calls):
    return told(*calls)[-1]


def rows_of(size, answer):
    """An answer that has ahead of it how many rows of that size there are."""
    rows = [answer[start:start + size] for start in range(1, len(answer), size)]
    if answer[0] != len(rows) or len(answer) != 1 + size * len(rows):
        raise AssertionError(f"{answer} are not {answer[0]} rows of {size}")
    return rows


def shown_on(device, *calls):
    return rows_of(4, last(*calls, shown(device)))


def at_house(*calls):
    return rows_of(4, last(*calls, house()))


def clashes_on(device, *calls):
    return rows_of(5, last(*calls, clashes(device)))


def state_of(device, *calls):
    return last(*calls, state(device))


def all_told(*calls):
    """All that can be told of a calendar behind these calls."""
    asked = [house()]
    for device in range(3):
        asked += [shown(device), clashes(device), state(device)]
    return told(*calls, *asked)[len(calls):]


def calendar_behind(*calls):
    """The calendar itself, for what no call tells: single changes that wait or are answered."""
    calendar = Calendar()
    for call in calls:
        calendar.answer(call[0], call[1:])
    return calendar


# Date 0, with fields 10, 20, 30, is made by device 0, and all three devices know of it.
SHARED_DATE = (make(0, 10, 20, 30), push(0), pull(0), pull(1), pull(2))
