"""Whatever was done, and whatever got lost: nothing is done twice, and in the end all show the same."""

import random
import unittest

from lines import calendar_behind, forget, make, pull, push, remove, set_


def any_call(source):
    device = source.randrange(3)
    date = source.choice([0, 1, 2, 3, 1000 + 100 * device + source.randrange(1, 6)])
    return source.choice([
        make(device, source.randrange(1000)),
        set_(device, date, source.randrange(3), source.randrange(1000)),
        set_(device, date, source.randrange(3), source.randrange(1000)),
        remove(device, date),
        push(device, source.randrange(4)),
        push(device, source.randrange(4)),
        pull(device, source.randrange(3)),
        forget(source.randrange(12)),
    ])


def bring_all_in(calendar):
    for device in range(3):
        for waiting in range(20):
            calendar.answer(3, [device, 0])
    for device in range(3):
        calendar.answer(4, [device, 0])


class TestInStep(unittest.TestCase):
    def lines(self):
        for seed in range(300):
            source = random.Random(seed)
            calendar = calendar_behind(*[any_call(source) for call in range(60)])
            bring_all_in(calendar)
            yield calendar

    def test_all_show_what_the_house_has(self):
        for calendar in self.lines():
            dates = list(calendar.house.dates().items())
            for device in calendar.devices:
                self.assertEqual(list(device.shown(calendar.house).items()), dates)
                self.assertEqual((device.waiting, device.answered), ([], []))

    def test_each_change_is_done_once_or_is_a_clash(self):
        for calendar in self.lines():
            for device in calendar.devices:
                done = [change.count for change in calendar.house.changes if change.device == device.number]
                clashing = [change.count for change in device.clashes]
                self.assertEqual((done, clashing), (sorted(done), sorted(clashing)))
                self.assertEqual(sorted(done + clashing), list(range(1, device.made + 1)))


if __name__ == "__main__":
    unittest.main()
