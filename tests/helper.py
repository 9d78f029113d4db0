"""Calls written as numbers, and what the tests ask of a store."""

from rowstamps.arguments import CALLS, Reader
from rowstamps.state import Store
from rowstamps.store import answer_call, answers


def new():
    return [0]


def begin(slot, strict=0):
    return [1, slot, strict]


def insert(slot, table, content):
    return [2, slot, table, len(content), *content]


def change(slot, table, row, content):
    return [3, slot, table, row, len(content), *content]


def remove(slot, table, row):
    return [4, slot, table, row]


def see(slot, table, row):
    return [5, slot, table, row]


def scan(slot, table, start, most):
    return [6, slot, table, start, most]


def point(slot):
    return [7, slot]


def back(slot, k):
    return [8, slot, k]


def release(slot, k):
    return [9, slot, k]


def ready(slot, most=131071):
    return [10, slot, most]


def settle(slot, kept=1):
    return [11, slot, kept]


def end(slot):
    return [12, slot]


def sweep():
    return [13]


def replay(group):
    return [14, len(group), *group]


def picture(most=131071):
    return [15, most]


def restore(shown):
    return [16, len(shown), *shown]


def told():
    return [17]


def low(number, many):
    """A number as bytes, the lowest first."""
    return list(number.to_bytes(many, "little"))


def to(table, row, content):
    """A group's change to a content."""
    return [table, *low(row, 2), 1, *low(len(content), 4), *content]


def gone(table, row):
    """A group's change to gone."""
    return [table, *low(row, 2), 0]


def group(stamp, *changes):
    return low(stamp, 8) + low(len(changes), 4) + sum(changes, [])


def held_row(table, row, stamp, content):
    """A picture's row."""
    return [table, *low(row, 2), *low(stamp, 8), *low(len(content), 4), *content]


def shown(last, *rows):
    """A picture."""
    return low(last, 8) + low(len(rows), 4) + sum(rows, [])


def ready_with(stamp, *changes):
    """What ready answers with a group."""
    whole = group(stamp, *changes)
    return [0, stamp, len(whole), *whole]


def picture_with(last, *rows):
    """What picture answers."""
    whole = shown(last, *rows)
    return [0, len(whole), *whole]


def split(told):
    """The answers one by one, from the list that `answers` gives back."""
    parts = []
    at = 0
    while at < len(told):
        parts.append(told[at + 1:at + 1 + told[at]])
        if len(parts[-1]) != told[at] or told[at] < 1:
            raise ValueError("an answer is shorter than its count")
        at += 1 + told[at]
    return parts


def ask(*calls):
    return split(answers(sum(calls, [])))


def last_of(*calls):
    return ask(*calls)[-1]


def do(store, call):
    """One call on a store that the test holds in its hand."""
    reader = Reader(call)
    number = reader.take_number()
    return answer_call(store, number, reader.take_arguments(CALLS[number][1:]))


def store_with(versions, last):
    """A store that keeps versions: {(table, row): [(stamp, content or None), ..]}."""
    store = Store()
    store.last = last
    for (table, row), pairs in versions.items():
        store.versions[table * 65536 + row] = list(pairs)
    store.held = held_anew(store)
    return store


def held_anew(store):
    """What is held, counted from the beginning."""
    contents = [content for pairs in store.versions.values() for _, content in pairs]
    for transaction in store.slots:
        if transaction is not None:
            contents.extend(content for _, content in transaction.changes)
    return sum(64 + len(content or ()) for content in contents)


def looked(store, slot):
    """The runs of rows that were looked at: (table, first row, last row), sorted."""
    runs = sorted(store.slots[slot].looked)
    return [(a // 65536, a % 65536, b % 65536) for a, b in runs]


def plain(store):
    """All that the store keeps, as values of their own, to be compared later."""
    slots = []
    for kept in store.slots:
        slots.append(None if kept is None else (
            kept.strict, kept.snapshot, list(kept.changes), list(kept.latest.items()),
            list(kept.points), list(kept.looked), kept.ready, list(kept.net)))
    versions = [(place, list(pairs)) for place, pairs in store.versions.items()]
    return store.last, versions, slots, store.held
