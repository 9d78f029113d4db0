"""What the document stands for: all is had again from the log, and strict ones come out as if one after another."""

import random
import unittest

from tests.helper import (
    ask, begin, change, do, end, insert, picture, ready, remove, replay, restore, scan, see, settle, sweep)
from rowstamps.state import Store


class Work:
    """Transactions in some slots, mixed at random; keeps what was committed, in order."""

    def __init__(self, seed, strict, sweeps):
        self.source = random.Random(seed)
        self.strict, self.sweeps = strict, sweeps
        self.store = Store()
        self.running = {}
        self.groups = []
        self.pictures = {0: do(self.store, picture())[2:]}
        self.committed = []
        self.second = 0

    def call_within(self, slot):
        """Inserts go to the slot's own table, so that their numbers don't hang on who else is there."""
        table = self.source.randrange(3)
        row = self.source.randrange(5)
        content = [self.source.randrange(256) for _ in range(self.source.randrange(3))]
        return self.source.choice((
            insert(slot, slot, content), change(slot, table, row, content), change(slot, table, row, content),
            see(slot, table, row), remove(slot, table, row), scan(slot, table, row, self.source.choice((0, 1, 2, 9)))))

    def commit(self, slot):
        told = do(self.store, ready(slot))
        calls = self.running.pop(slot)
        if told[0] == 1:
            self.second += 1
            return
        if self.source.random() < 0.1:
            do(self.store, settle(slot, 0))
            return
        do(self.store, settle(slot))
        if told[2] > 0:
            self.groups.append(told[3:])
            self.committed.append(calls)
            self.pictures[told[1]] = do(self.store, picture())[2:]

    def step(self):
        slot = self.source.randrange(3)
        if slot not in self.running:
            do(self.store, begin(slot, self.strict))
            self.running[slot] = []
        elif self.source.random() < 0.15:
            self.commit(slot)
        elif self.source.random() < 0.02:
            do(self.store, end(slot))
            self.running.pop(slot)
        else:
            call = self.call_within(slot)
            self.running[slot].append((call, do(self.store, call)))
        if self.sweeps and self.source.random() < 0.05:
            do(self.store, sweep())


def done(seed, strict, sweeps):
    work = Work(seed, strict, sweeps)
    for _ in range(400):
        work.step()
    return work


class Log(unittest.TestCase):
    def test_the_groups_bring_all_back(self):
        for seed in range(20):
            work = done(seed, seed % 2, True)
            last = len(work.groups)
            self.assertGreater(last, 5)
            told = ask(*[replay(group) for group in work.groups], picture())
            self.assertEqual(told[:-1], [[0, stamp] for stamp in range(1, last + 1)])
            self.assertEqual(told[-1][2:], work.pictures[last])

    def test_a_picture_and_the_groups_behind_it_bring_all_back(self):
        for seed in range(10):
            work = done(seed, seed % 2, True)
            last = len(work.groups)
            for stamp in range(last + 1):
                told = ask(restore(work.pictures[stamp]), *[replay(group) for group in work.groups[stamp:]], picture())
                self.assertEqual(told[:-1], [[0, which] for which in range(stamp, last + 1)])
                self.assertEqual(told[-1][2:], work.pictures[last])


class OneAfterAnother(unittest.TestCase):
    def same_alone(self, work):
        """Whether each that committed is told the same when it's made alone, in the order of the commits."""
        store = Store()
        same = True
        for calls in work.committed:
            slot = calls[0][0][1]
            do(store, begin(slot))
            for call, told in calls:
                same = same and do(store, call) == told
            do(store, ready(slot))
            do(store, settle(slot))
        return same and do(store, picture())[2:] == work.pictures[len(work.groups)]

    def test_strict_ones_come_out_as_if_alone(self):
        second = 0
        for seed in range(60):
            work = done(seed, 1, False)
            self.assertTrue(self.same_alone(work), seed)
            second += work.second
        self.assertGreater(second, 60)

    def test_others_need_not(self):
        """Else the test above would tell nothing."""
        self.assertFalse(all([self.same_alone(done(seed, 0, False)) for seed in range(20)]))


if __name__ == "__main__":
    unittest.main()
