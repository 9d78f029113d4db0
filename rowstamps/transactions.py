"""The calls on transactions as such: new, begin, end, point, back, release."""

from rowstamps.limits import FULL, NO_SUCH_POINT, NOT_NOW, POINTS_MOST
from rowstamps.state import Transaction, close_slot, undo_changes


def make_new(store):
    store.start_anew()
    return [0]


def begin(store, slot, strict):
    if store.slots[slot] is not None:
        return [NOT_NOW]
    store.slots[slot] = Transaction(strict == 1, store.last)
    return [0, store.last]


def end(store, slot):
    if store.slots[slot] is None:
        return [NOT_NOW]
    close_slot(store, slot)
    return [0]


def set_point(transaction):
    if len(transaction.points) == POINTS_MOST:
        return [FULL]
    transaction.points.append(len(transaction.changes))
    return [len(transaction.points)]


def has_point(transaction, k):
    return 1 <= k <= len(transaction.points)


def go_back(store, transaction, k):
    if not has_point(transaction, k):
        return [NO_SUCH_POINT]
    undo_changes(store, transaction, transaction.points[k - 1])
    transaction.points = transaction.points[:k]
    return [0]


def release_point(transaction, k):
    if not has_point(transaction, k):
        return [NO_SUCH_POINT]
    transaction.points = transaction.points[:k - 1]
    return [0]
