"""Long lists of mixed calls, answered also by a plain reading of the document."""

import random
import unittest

from tests import helper
from rowstamps.state import Store


class Model:
    """Keeps for each slot its changes and points alone, and works out all else when asked."""

    def __init__(self):
        self.slots = {}

    def sees(self, slot, table, row):
        for changed, content in reversed(self.slots[slot][0]):
            if changed == (table, row):
                return content
        return None

    def new(self):
        self.slots = {}
        return [0]

    def begin(self, slot, strict):
        if slot in self.slots:
            return [-4]
        self.slots[slot] = ([], [])
        return [0, 0]

    def end(self, slot):
        self.slots.pop(slot)
        return [0]

    def insert(self, slot, table, content):
        taken = {changed for changes, _ in self.slots.values() for changed, _ in changes}
        row = 0
        while (table, row) in taken:
            row += 1
        self.slots[slot][0].append(((table, row), content))
        return [row]

    def change(self, slot, table, row, content):
        if self.sees(slot, table, row) is None:
            return [0]
        self.slots[slot][0].append(((table, row), content))
        return [1]

    def remove(self, slot, table, row):
        return self.change(slot, table, row, None)

    def see(self, slot, table, row):
        content = self.sees(slot, table, row)
        return [0] if content is None else [1, len(content), *content]

    def scan(self, slot, table, start, most):
        told = []
        for row in range(start, 300):
            content = self.sees(slot, table, row)
            if content is not None:
                told.append([row, len(content), *content])
        told = told[:most]
        return [len(told)] + sum(told, [])

    def point(self, slot):
        changes, points = self.slots[slot]
        if len(points) == 64:
            return [-6]
        points.append(len(changes))
        return [len(points)]

    def back(self, slot, k):
        changes, points = self.slots[slot]
        if k not in range(1, len(points) + 1):
            return [-5]
        self.slots[slot] = (changes[:points[k - 1]], points[:k])
        return [0]

    def answer(self, name, given):
        if not self.within(name, given):
            return [-2]
        if name not in ("new", "begin") and given[0] not in self.slots:
            return [-4]
        return getattr(self, name)(*given)

    @staticmethod
    def within(name, given):
        if name == "new":
            return True
        fine = 0 <= given[0] <= 15
        if name == "begin":
            fine = fine and given[1] in (0, 1)
        if name in ("insert", "change", "remove", "see", "scan"):
            fine = fine and 0 <= given[1] <= 63
        if name in ("change", "remove", "see", "scan"):
            fine = fine and 0 <= given[2] <= 65535
        if name == "scan":
            fine = fine and 0 <= given[3] <= 65536
        return fine


NAMES = ["insert"] * 6 + ["change"] * 5 + ["remove"] * 3 + ["see"] * 5 + ["scan"] * 4 + ["point"] * 4 + [
    "back"] * 2 + ["begin"] * 3 + ["end"]


def some_call(source):
    slot = source.choice((0, 0, 0, 1, 1, 15, 15, 16, -1))
    table = source.choice((0, 0, 0, 63, 63, 64, -1)) if source.random() < 0.3 else 0
    row = source.choice((0, 1, 2, 3, 4, 5, 6, 7, 65535, 65536, -1))
    content = [source.randrange(256) for _ in range(source.randrange(4))]
    name = source.choice(NAMES) if source.random() < 0.99 else "new"
    return name, {
        "new": (), "begin": (slot, source.choice((0, 1, 1, 0, 2))), "end": (slot,), "insert": (slot, table, content),
        "change": (slot, table, row, content), "remove": (slot, table, row), "see": (slot, table, row),
        "scan": (slot, table, row, source.choice((0, 1, 2, 9, 65536, 65537))), "point": (slot,),
        "back": (slot, source.choice((0, 1, 1, 2, 2, 3, 4, 5))),
    }[name]


class Mixed(unittest.TestCase):
    def test_as_the_model_answers(self):
        for seed in range(200):
            source = random.Random(seed)
            calls = [("begin", (0, 1)), ("begin", (15, 0))] + [some_call(source) for _ in range(298)]
            model = Model()
            wanted = [model.answer(name, given) for name, given in calls]
            told = helper.ask(*[getattr(helper, name)(*given) for name, given in calls])
            self.assertEqual(told, wanted, seed)

    def test_held_is_right_at_each_step(self):
        for seed in range(20):
            source = random.Random(1000 + seed)
            store = Store()
            for _ in range(300):
                name, given = some_call(source)
                helper.do(store, getattr(helper, name)(*given))
                self.assertEqual(store.held, helper.held_anew(store))


if __name__ == "__main__":
    unittest.main()
