"""Whatever was done, and whatever got lost: nothing is done twice, and in the end all show the same."""

import random
import unittest

from lines import calendar_behind, forget, make, pull, push, remove, set_, settle


def any_call(source):
    device = source.randrange(3)
    date = source.choice([0, 1, 2, 3, 1000 + 100 * device + source.randrange(1, 6)])
    return source.choice([
        make(device, source.randrange(1000)),
        set_(device, date, source.randrange(3), source.randrange(1000)),
        set_(device, date, source.randrange(3), source.randrange(1000)),
        remove(device, date),
        push(device, source.randrange(4)),
        push(device, source.randrange(4)),
        pull(device, source.randrange(3)),
        settle(device, source.randrange(2), source.randrange(3)),
        forget(source.randrange(12)),
    ])


def bring_all_in(calendar):
    for device in range(3):
        for waiting in range(20):
            calendar.answer(3, [device, 0])
    for device in range(3):
        calendar.answer(4, [device, 0])


def settle_all(calendar):
    """Each clash is made once more where that can be, and let go where not."""
    for device in calendar.devices:
        while device.clashes:
            if calendar.answer(9, [device.number, 0, 1])[0] < 0:
                calendar.answer(9, [device.number, 0, 0])
        bring_all_in(calendar)


def settled_on(device, calendar, calls):
    """Carries out the calls, and counts how many clashes of that device were settled by them."""
    return len([call for call in calls if calendar.answer(call[0], call[1:])[0] >= 0 and call[:2] == [9, device]])


class TestInStep(unittest.TestCase):
    def lines(self):
        for seed in range(300):
            source = random.Random(seed)
            yield [any_call(source) for call in range(60)]

    def all_show_the_same(self, calendar):
        dates = calendar.answer(7, [])
        changes = len(calendar.house.changes)
        for device in range(3):
            self.assertEqual(calendar.answer(6, [device]), dates)
            knows, there, made, waiting, answered, clashing = calendar.answer(10, [device])
            self.assertEqual((knows, there, waiting, answered), (changes, changes, 0, 0))

    def test_all_show_what_the_house_has(self):
        for calls in self.lines():
            calendar = calendar_behind(*calls)
            bring_all_in(calendar)
            self.all_show_the_same(calendar)

    def test_each_change_is_done_once_or_is_a_clash_till_it_is_settled(self):
        for calls in self.lines():
            for number in range(3):
                calendar = calendar_behind()
                settled = settled_on(number, calendar, calls)
                bring_all_in(calendar)
                device = calendar.devices[number]
                done = [change.count for change in calendar.house.changes if change.device == number]
                clashing = [change.count for change in device.clashes]
                self.assertEqual((done, clashing), (sorted(set(done)), sorted(set(clashing))))
                self.assertEqual(set(done) & set(clashing), set())
                self.assertEqual(len(done) + len(clashing) + settled, device.made)

    def test_all_can_be_settled(self):
        for calls in self.lines():
            calendar = calendar_behind(*calls)
            bring_all_in(calendar)
            settle_all(calendar)
            self.all_show_the_same(calendar)
            for device in range(3):
                self.assertEqual(calendar.answer(8, [device]), [0])


if __name__ == "__main__":
    unittest.main()
