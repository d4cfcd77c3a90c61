"""Whole lines of all eleven calls: one worked out by hand, and many against a second, plainer telling."""

import random
import unittest

from copieskept.house import answers

from lines import SHARED_DATE, clashes, forget, house, make, pull, push, remove, set_, settle, shown, state, told

WORKED_OUT = [
    (make(0, 10, 20, 30), [1001]),
    (set_(0, 1001, 2, 31), [2]),
    (shown(0), [1, 1001, 10, 20, 31]),
    (house(), [0]),
    (push(0, 2), [0]),
    (house(), [1, 0, 10, 20, 30]),
    (pull(1), [1, 1]),
    (set_(1, 0, 2, 32), [1]),
    (push(1), [1]),
    (push(0), [1]),
    (shown(0), [1, 0, 10, 20, 31]),
    (state(0), [0, 2, 2, 1, 1, 0]),
    (push(0), [2]),
    (clashes(0), [1, 2, 0, 0, 2, 31]),
    (shown(0), [1, 0, 10, 20, 30]),
    (settle(0, 0, 2), [-1]),
    (settle(0, 1, 1), [-4]),
    (pull(0), [1, 2]),
    (shown(0), [1, 0, 10, 20, 32]),
    (settle(0, 0, 1), [3]),
    (clashes(0), [0]),
    (state(0), [2, 2, 3, 1, 0, 0]),
    (push(0), [1]),
    (house(), [1, 0, 10, 20, 31]),
    (state(0), [2, 3, 3, 0, 1, 0]),
    (forget(4), [-1]),
    (forget(3), [3]),
    (remove(1, 0), [2]),
    (push(1, 1), [0]),
    (push(1), [2]),
    (clashes(1), [1, 2, 1, 0, 0, 0]),
    (pull(1), [2, 1]),
    (settle(1, 0, 1), [3]),
    (push(1), [1]),
    (house(), [0]),
    (set_(0, 0, 0, 11), [4]),
    (push(0), [2]),
    (pull(0), [2, 0]),
    (settle(0, 0, 1), [-2]),
    (settle(0, 0, 0), [0]),
    (state(0), [4, 4, 4, 0, 0, 0]),
    (shown(0), [0]),
]


class SecondTelling:
    """The document's words once more, with changes as rows (device, count, knew, kind, date, field, what, fields)."""

    def __init__(self):
        self.log = []
        self.came = [(0, None)] * 3
        self.floor = 0
        self.knows = [0] * 3
        self.made = [0] * 3
        self.waits = [[], [], []]
        self.answered = [[], [], []]
        self.clashes = [[], [], []]

    def dates(self, rows):
        dates = []
        for device, count, knew, kind, date, field, what, fields in rows:
            if kind == 2:
                dates.append([date] + fields)
            elif kind == 1:
                dates = [row for row in dates if row[0] != date]
            else:
                dates = [row[:field + 1] + [what] + row[field + 2:] if row[0] == date else row for row in dates]
        return dates

    def shown(self, d):
        return self.dates(self.log[:self.knows[d]] + self.answered[d] + self.waits[d])

    def is_shown(self, d, date):
        return date in [row[0] for row in self.shown(d)]

    def is_full(self, d):
        return self.made[d] == 99 or len(self.waits[d]) == 20

    def add(self, d, kind, date, field, what, fields):
        self.made[d] += 1
        self.waits[d].append((d, self.made[d], self.knows[d], kind, date, field, what, fields))
        return [date if kind == 2 else self.made[d]]

    def hits(self, other, row):
        if other[0] == row[0] or other[4] != row[4] or other[3] == 2:
            return False
        return other[3] == 1 or row[3] == 1 or other[5] == row[5]

    def comes(self, row):
        d, count, knew, kind, date, field, what, fields = row
        if count <= self.came[d][0]:
            return
        if kind == 2:
            date = len([other for other in self.log if other[3] == 2])
        elif date not in [there[0] for there in self.dates(self.log)] or any(
                self.hits(other, row) for other in self.log[knew:]):
            self.came[d] = (count, None)
            return
        self.came[d] = (count, len(self.log))
        self.log.append((d, count, knew, kind, date, field, what, fields))

    def comes_back(self, d):
        row = self.waits[d].pop(0)
        place = self.came[d][1]
        if place is None:
            self.clashes[d].append(row)
            return [2]
        if row[3] == 2:
            number = self.log[place][4]
            self.waits[d] = [
                other[:4] + (number if other[4] == row[4] else other[4],) + other[5:] for other in self.waits[d]]
        if place >= self.knows[d]:
            self.answered[d].append(self.log[place])
        return [1]

    def make(self, d, a, b, c):
        if a > 999 or b > 999 or c > 999:
            return [-1]
        if self.is_full(d):
            return [-5]
        return self.add(d, 2, 1000 + 100 * d + self.made[d] + 1, 0, 0, [a, b, c])

    def set(self, d, date, field, what):
        if field > 2 or what > 999:
            return [-1]
        if not self.is_shown(d, date):
            return [-4]
        return [-5] if self.is_full(d) else self.add(d, 0, date, field, what, [])

    def remove(self, d, date):
        if not self.is_shown(d, date):
            return [-4]
        return [-5] if self.is_full(d) else self.add(d, 1, date, 0, 0, [])

    def push(self, d, how):
        if how > 2:
            return [-1]
        if not self.waits[d]:
            return [-6]
        if how != 1:
            self.comes(self.waits[d][0])
        return self.comes_back(d) if how == 0 else [0]

    def pull(self, d, how):
        if how > 0:
            return [0] if how == 1 else [-1]
        knew = self.knows[d]
        self.knows[d] = len(self.log)
        self.answered[d] = []
        return [2, len(self.dates(self.log))] if knew < self.floor else [1, len(self.log) - knew]

    def forget(self, n):
        if not self.floor <= n <= len(self.log):
            return [-1]
        self.floor = n
        return [n]

    def told_clashes(self, d):
        return [len(self.clashes[d])] + [
            number for row in self.clashes[d] for number in (row[1], row[3], row[4], row[5], row[6])]

    def settle(self, d, which, again):
        if again not in (0, 1):
            return [-1]
        if which not in range(len(self.clashes[d])):
            return [-4]
        row = self.clashes[d][which]
        if again == 1 and not self.is_shown(d, row[4]):
            return [-2]
        if again == 1 and self.is_full(d):
            return [-5]
        self.clashes[d] = self.clashes[d][:which] + self.clashes[d][which + 1:]
        return self.add(d, *row[3:]) if again == 1 else [0]

    def state(self, d):
        return [self.knows[d], len(self.log), self.made[d], len(self.waits[d]), len(self.answered[d]),
                len(self.clashes[d])]

    def told_dates(self, dates):
        return [len(dates)] + [number for row in dates for number in row]

    def answer(self, call):
        if call[0] == 5:
            return self.forget(call[1])
        if call[0] == 7:
            return self.told_dates(self.dates(self.log))
        if call[1] > 2:
            return [-3]
        if call[0] == 6:
            return self.told_dates(self.shown(call[1]))
        with_device = {
            0: self.make, 1: self.set, 2: self.remove, 3: self.push, 4: self.pull, 8: self.told_clashes,
            9: self.settle, 10: self.state}
        return with_device[call[0]](*call[1:])


KINDS = [0, 0] + [1] * 14 + [2] + [3] * 14 + [4] * 3 + [5, 6, 6, 7, 8, 8] + [9] * 6 + [10, 10]


def seldom(source, usual, whole):
    """Mostly below `usual`, so that something comes of most calls."""
    return source.randrange(whole) if source.randrange(15) == 0 else source.randrange(usual)


def how(source, usual):
    return source.choice([0, 0, 0, 0, seldom(source, usual, 10)])


def any_date(source, dates):
    numbers = [row[0] for row in dates]
    if not numbers or source.randrange(15) == 0:
        return source.choice([0, 1, 1001, 1101, 1201, source.randrange(1401)])
    return source.choice(numbers[:2])


def any_call(source, kind, device, dates):
    what = seldom(source, 1000, 2001)
    return {
        0: make(device, what, seldom(source, 1000, 2001), seldom(source, 1000, 2001)),
        1: set_(device, any_date(source, dates), seldom(source, 2, 10), what),
        2: remove(device, any_date(source, dates)),
        3: push(device, how(source, 3)),
        4: pull(device, how(source, 2)),
        5: forget(seldom(source, 10, 301)),
        6: shown(device),
        7: house(),
        8: clashes(device),
        9: settle(device, seldom(source, 1, 4), seldom(source, 2, 10)),
        10: state(device),
    }[kind]


def any_line(source, length):
    second = SecondTelling()
    line = []
    for call in source.choice([(), SHARED_DATE, SHARED_DATE]):
        second.answer(call)
        line.append(call)
    while len(line) < length:
        device = seldom(source, 3, 10)
        dates = second.shown(device) if device < 3 else []
        line.append(any_call(source, source.choice(KINDS), device, dates))
        second.answer(line[-1])
    return line


class TestWorkedOut(unittest.TestCase):
    def test_line(self):
        self.assertEqual(told(*[call for call, answer in WORKED_OUT]), [answer for call, answer in WORKED_OUT])

    def test_all_eleven_calls_are_in_it(self):
        self.assertEqual({call[0] for call, answer in WORKED_OUT}, set(range(11)))


class TestAnyLines(unittest.TestCase):
    def lines(self):
        for seed in range(400):
            source = random.Random(seed)
            yield any_line(source, 80 if seed % 2 else source.randrange(1, 81))

    def test_as_in_the_second_telling(self):
        for line in self.lines():
            second = SecondTelling()
            self.assertEqual(told(*line), [second.answer(call) for call in line])

    def test_every_answer_and_refusal_is_met(self):
        met = set()
        for line in self.lines():
            met |= {(call[0], min(answer[0], 0)) for call, answer in zip(line, told(*line))}
        for call, refusals in {0: (-3, -1), 1: (-3, -1, -4), 2: (-3, -4), 3: (-3, -1, -6), 4: (-3, -1), 5: (-1,),
                               6: (-3,), 7: (), 8: (-3,), 9: (-3, -1, -4, -2), 10: (-3,)}.items():
            self.assertLessEqual({(call, number) for number in (0,) + refusals}, met)

    def test_the_list_handed_in_stays_and_a_second_time_answers_the_same(self):
        for line in self.lines():
            numbers = [number for call in line for number in call]
            handed_in = list(numbers)
            first = answers(handed_in)
            self.assertEqual(handed_in, numbers)
            self.assertEqual(answers(handed_in), first)
            self.assertEqual({type(number) for number in first}, {int})

    def test_a_refusal_is_the_one_number_below_0(self):
        for line in self.lines():
            for answer in told(*line):
                self.assertTrue(answer)
                self.assertTrue(min(answer) >= 0 or len(answer) == 1)

    def test_a_refusal_changes_nothing(self):
        for line in self.lines():
            answered = told(*line)
            kept = [(call, answer) for call, answer in zip(line, answered) if answer[0] >= 0]
            if kept:
                self.assertEqual(told(*[call for call, answer in kept]), [answer for call, answer in kept])


if __name__ == "__main__":
    unittest.main()
