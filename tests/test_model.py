"""Long lists of mixed calls, answered also by a plain reading of the document."""

import random
import unittest

from tests import helper
from rowstamps.state import Store

TOP = 2 ** 62
# Rows are tried out near the edges alone, so that each call meets what others left.
ROWS = list(range(0, 12)) + [65534, 65535]


class Kept:
    def __init__(self, strict, snapshot):
        self.strict, self.snapshot = strict, snapshot
        self.changes, self.points, self.looked, self.net = [], [], [], None


class Model:
    """Keeps versions as one list of (stamp, row, content), and works out all else when asked."""

    def __init__(self):
        self.new()

    def new(self):
        self.last, self.versions, self.slots = 0, [], {}
        return [0]

    def of(self, row):
        return [(stamp, content) for stamp, which, content in self.versions if which == row]

    def newest(self, row, snapshot):
        found = [version for version in self.of(row) if version[0] <= snapshot]
        return max(found, key=lambda version: version[0])[1] if found else None

    def sees(self, slot, row):
        kept = self.slots[slot]
        own = [content for which, content in kept.changes if which == row]
        return own[-1] if own else self.newest(row, kept.snapshot)

    def look(self, slot, table, first, last):
        if self.slots[slot].strict:
            self.slots[slot].looked.append((table, first, last))

    def begin(self, slot, strict):
        if slot in self.slots:
            return [-4]
        self.slots[slot] = Kept(strict, self.last)
        return [0, self.last]

    def end(self, slot):
        if slot not in self.slots:
            return [-4]
        self.slots.pop(slot)
        return [0]

    def insert(self, slot, table, content):
        taken = {which for kept in self.slots.values() for which, _ in kept.changes}
        taken |= {which for _, which, _ in self.versions}
        row = 0
        while (table, row) in taken:
            row += 1
        self.look(slot, table, row, row)
        self.slots[slot].changes.append(((table, row), content))
        return [row]

    def change(self, slot, table, row, content):
        self.look(slot, table, row, row)
        if self.sees(slot, (table, row)) is None:
            return [0]
        self.slots[slot].changes.append(((table, row), content))
        return [1]

    def remove(self, slot, table, row):
        return self.change(slot, table, row, None)

    def see(self, slot, table, row):
        self.look(slot, table, row, row)
        content = self.sees(slot, (table, row))
        return [0] if content is None else [1, len(content), *content]

    def scan(self, slot, table, start, most):
        there = []
        known = {row for _, (which, row), _ in self.versions if which == table}
        known |= {row for (which, row), _ in self.slots[slot].changes if which == table}
        for row in sorted(known):
            content = self.sees(slot, (table, row))
            if row >= start and content is not None:
                there.append([row, len(content), *content])
        told = there[:most]
        if told == there:
            self.look(slot, table, start, 65535)
        elif told:
            self.look(slot, table, start, told[-1][0])
        return [len(told)] + sum(told, [])

    def point(self, slot):
        kept = self.slots[slot]
        if len(kept.points) == 64:
            return [-6]
        kept.points.append(len(kept.changes))
        return [len(kept.points)]

    def back(self, slot, k):
        kept = self.slots[slot]
        if k not in range(1, len(kept.points) + 1):
            return [-5]
        kept.changes, kept.points = kept.changes[:kept.points[k - 1]], kept.points[:k]
        return [0]

    def release(self, slot, k):
        kept = self.slots[slot]
        if k not in range(1, len(kept.points) + 1):
            return [-5]
        kept.points = kept.points[:k - 1]
        return [0]

    def net(self, kept):
        rows = {which for which, _ in kept.changes}
        net = [(which, [content for one, content in kept.changes if one == which][-1]) for which in sorted(rows)]
        return [(which, content) for which, content in net if content is not None or self.of(which)]

    def ready(self, slot, most):
        if slot not in self.slots or any(kept.net is not None for kept in self.slots.values()):
            return [-4]
        kept = self.slots[slot]
        net = self.net(kept)
        if not net:
            kept.net = []
            return [0, kept.snapshot, 0]
        mine = {which for which, _ in kept.changes}
        for stamp, (table, row), _ in sorted(self.versions, key=lambda version: version[1]):
            looked = any(which == table and first <= row <= last for which, first, last in kept.looked)
            if stamp > kept.snapshot and (looked or (table, row) in mine):
                self.slots.pop(slot)
                return [1, table, row]
        if self.last == TOP:
            return [-6]
        answer = helper.ready_with(self.last + 1, *[
            helper.gone(*which) if content is None else helper.to(*which, content) for which, content in net])
        if answer[2] > most:
            return [-7]
        kept.net = net
        return answer

    def settle(self, slot, kept):
        if slot not in self.slots or self.slots[slot].net is None:
            return [-4]
        net = self.slots.pop(slot).net
        if kept == 1 and net:
            self.last += 1
            self.versions += [(self.last, which, content) for which, content in net]
        return [0]

    def sweep(self):
        oldest = min([kept.snapshot for kept in self.slots.values()] + [self.last])
        stay = []
        for stamp, which, content in self.versions:
            newest = max([one for one, _ in self.of(which) if one <= oldest], default=None)
            if stamp > oldest or (stamp == newest and content is not None):
                stay.append((stamp, which, content))
        many = len(self.versions) - len(stay)
        self.versions = stay
        return [many]

    def replay(self, whole):
        if self.slots:
            return [-4]
        group = read(whole, False)
        if group is None or group[0] != self.last + 1 or any(
                content is None and self.newest(which, self.last) is None for which, _, content in group[1]):
            return [-3]
        self.last = group[0]
        self.versions += [(self.last, which, content) for which, _, content in group[1]]
        self.sweep()
        return [0, self.last]

    def shown(self):
        rows = {which for _, which, _ in self.versions}
        newest = [(which, *max(self.of(which), key=lambda version: version[0])) for which in sorted(rows)]
        return helper.shown(self.last, *[helper.held_row(*which, stamp, content)
                                         for which, stamp, content in newest if content is not None])

    def picture(self, most):
        whole = self.shown()
        return [-7] if len(whole) > most else [0, len(whole), *whole]

    def restore(self, whole):
        if self.slots:
            return [-4]
        view = read(whole, True)
        if view is None:
            return [-3]
        self.last = view[0]
        self.versions = [(stamp, which, content) for which, stamp, content in view[1]]
        return [0, self.last]

    def told(self):
        contents = [content for _, _, content in self.versions]
        contents += [content for kept in self.slots.values() for _, content in kept.changes]
        return [0, self.last, len(self.versions), sum(64 + len(content or ()) for content in contents), len(self.slots)]

    def answer(self, name, given):
        if not within(name, given):
            return [-2]
        if name in ("insert", "change", "remove", "see", "scan", "point", "back", "release"):
            if given[0] not in self.slots or self.slots[given[0]].net is not None:
                return [-4]
        return getattr(self, name)(*given)


def read(whole, is_picture):
    """The stamp, and (row, stamp, content) of each; None if it's wrong. What it's read as must give the same bytes."""
    data = bytes(whole)
    at = 12
    rows = []
    for _ in range(min(int.from_bytes(data[8:12], "little"), len(data))):
        which = (int.from_bytes(data[at:at + 1], "little"), int.from_bytes(data[at + 1:at + 3], "little"))
        stamp = int.from_bytes(data[at + 3:at + 11], "little") if is_picture else 0
        at += 11 if is_picture else 4
        content = None
        if is_picture or data[at - 1:at] != b"\0":
            many = int.from_bytes(data[at:at + 4], "little")
            content = list(data[at + 4:at + 4 + many])
            at += 4 + many
        rows.append((which, stamp, content))
    last = int.from_bytes(data[:8], "little")
    if is_picture:
        again = helper.shown(last, *[helper.held_row(*which, stamp, content) for which, stamp, content in rows])
    else:
        again = helper.group(last, *[helper.gone(*which) if content is None else helper.to(*which, content)
                                     for which, _, content in rows])
    fine = again == list(whole) and last <= TOP and (is_picture or (last > 0 and rows != []))
    fine = fine and [which for which, _, _ in rows] == sorted({which for which, _, _ in rows})
    fine = fine and all(which[0] < 64 and len(content or ()) <= 16384 for which, _, content in rows)
    fine = fine and (not is_picture or all(1 <= stamp <= last for _, stamp, _ in rows))
    return (last, rows) if fine else None


def within(name, given):
    if name in ("new", "sweep", "told", "replay", "restore"):
        return True
    if name == "picture":
        return given[0] >= 0
    fine = 0 <= given[0] <= 15
    if name in ("begin", "settle"):
        fine = fine and given[1] in (0, 1)
    if name == "ready":
        fine = fine and given[1] >= 0
    if name in ("insert", "change", "remove", "see", "scan"):
        fine = fine and 0 <= given[1] <= 63
    if name in ("change", "remove", "see", "scan"):
        fine = fine and 0 <= given[2] <= 65535
    if name == "scan":
        fine = fine and 0 <= given[3] <= 65536
    return fine


def some_content(source):
    return [source.randrange(256) for _ in range(source.randrange(4))]


def spoilt(source, whole):
    """The bytes, in one of six cases with a fault."""
    if source.random() < 5 / 6:
        return whole
    at = source.randrange(len(whole))
    kind = source.randrange(4)
    if kind == 0:
        return whole[:at]
    if kind == 1:
        return whole + [source.choice((0, 1, 255))]
    if kind == 2:
        return whole[:at] + whole[at + 1:]
    return whole[:at] + [source.choice((0, 1, 2, 64, 255))] + whole[at + 1:]


def some_group(source, model):
    stamp = model.last + source.choice((1, 1, 1, 1, 1, 1, 1, 0, 2))
    changes = []
    for table in (0, 63):
        for row in ROWS:
            there = model.newest((table, row), model.last) is not None
            if source.random() < (0.4 if there else 0.05):
                gone = source.random() < (0.4 if there else 0.02)
                changes.append(helper.gone(table, row) if gone else helper.to(table, row, some_content(source)))
    return spoilt(source, helper.group(min(stamp, TOP + 1), *changes))


def some_picture(source, model):
    if source.random() < 0.4:
        return spoilt(source, model.shown())
    last = source.choice((0, 1, 5, 300, TOP - 2, TOP - 1, TOP, TOP + 1))
    rows = [helper.held_row(source.choice((0, 0, 63)), row, source.randrange(max(0, last - 3), last + 1),
                            some_content(source)) for row in ROWS if source.random() < 0.2]
    return spoilt(source, helper.shown(last, *sorted(rows, key=lambda row: (row[0], row[1] + 256 * row[2]))))


NAMES = ["insert"] * 12 + ["change"] * 14 + ["remove"] * 5 + ["see"] * 7 + ["scan"] * 7 + ["point"] * 4 + [
    "back"] * 3 + ["release"] * 3 + ["begin"] * 12 + ["end"] * 3 + ["ready"] * 9 + ["settle"] * 14 + ["sweep"] * 3 + [
    "replay"] * 2 + ["picture"] * 3 + ["restore"] + ["told"] * 4


def some_call(source, model):
    slot = source.choice((0, 0, 0, 1, 1, 1, 15, 15, 15, 16, -1))
    is_ready = [which for which, kept in model.slots.items() if kept.net is not None]
    table = source.choice((0, 0, 0, 63, 63, 64, -1)) if source.random() < 0.3 else 0
    row = source.choice(ROWS + [65536, -1]) if source.random() < 0.2 else source.randrange(6)
    content = some_content(source)
    name = source.choice(NAMES) if source.random() < 0.99 else "new"
    if not model.slots and source.random() < 0.5:
        name = source.choice(("replay", "replay", "replay", "replay", "restore", "begin", "begin", "begin"))
    most = source.choice((0, 12, 19, 20, 21, 22, 23, 24, 28, 40, -1) + (131071,) * 12)
    return name, {
        "new": (), "begin": (slot, source.choice((0, 1, 1, 0, 2))), "end": (slot,), "insert": (slot, table, content),
        "change": (slot, table, row, content), "remove": (slot, table, row), "see": (slot, table, row),
        "scan": (slot, table, row, source.choice((0, 1, 2, 9, 65536, 65537))), "point": (slot,),
        "back": (slot, source.choice((0, 1, 1, 2, 2, 3, 4, 5))), "release": (slot, source.choice((0, 1, 1, 2, 2, 3))),
        "ready": (slot, most), "settle": (source.choice(is_ready * 5 + [slot]), source.choice((1, 1, 1, 1, 0, 2))),
        "sweep": (), "replay": (some_group(source, model),), "picture": (most,),
        "restore": (some_picture(source, model),), "told": (),
    }[name]


class Mixed(unittest.TestCase):
    def test_as_the_model_answers(self):
        met = {}
        for seed in range(300):
            source = random.Random(seed)
            model = Model()
            calls, wanted = [], []
            for _ in range(300):
                name, given = some_call(source, model)
                calls.append(getattr(helper, name)(*given))
                wanted.append(model.answer(name, given))
                kind = (name, wanted[-1][0] if name in ("ready", "change") else min(wanted[-1][0], 0))
                met[kind] = met.get(kind, 0) + 1
            self.assertEqual(helper.ask(*calls), wanted, seed)
        for kind in [("ready", 0), ("ready", 1), ("ready", -4), ("ready", -6), ("ready", -7), ("settle", 0),
                     ("settle", -4), ("replay", 0), ("replay", -3), ("replay", -4), ("restore", 0), ("restore", -3),
                     ("restore", -4), ("picture", 0), ("picture", -7), ("release", 0), ("release", -5), ("sweep", 0)]:
            self.assertGreater(met.get(kind, 0), 20, kind)

    def test_held_is_right_at_each_step(self):
        for seed in range(40):
            source = random.Random(1000 + seed)
            model = Model()
            store = Store()
            for _ in range(300):
                name, given = some_call(source, model)
                before = helper.plain(store)
                told = helper.do(store, getattr(helper, name)(*given))
                self.assertEqual(told, model.answer(name, given))
                self.assertEqual(store.held, helper.held_anew(store))
                if told[0] < 0:
                    self.assertEqual(helper.plain(store), before)


if __name__ == "__main__":
    unittest.main()
