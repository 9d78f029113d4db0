"""The calls that commit: ready, settle."""

from rowstamps.forms import group_bytes, group_length
from rowstamps.limits import FULL, NOT_NOW, ROWS, STAMP_MOST, TOO_LONG
from rowstamps.state import close_slot, keep_versions, open_transactions, with_versions


def is_one_ready(store):
    for transaction in open_transactions(store):
        if transaction.ready:
            return True
    return False


def net_changes(store, transaction):
    """The last change of each row, rising by place, but for gone rows of which no version is kept."""
    net = []
    for place in sorted(transaction.latest):
        content = transaction.latest[place]
        if content is not None or place in store.versions:
            net.append((place, content))
    return net


def is_concerned(transaction, place):
    """Whether the transaction has changed the row, or looked at it."""
    if place in transaction.latest:
        return True
    for first, last in transaction.looked:
        if first <= place <= last:
            return True
    return False


def place_of_another(store, transaction):
    """The least place where another was first; None if there's none."""
    newer = [place for place in store.versions if store.versions[place][-1][0] > transaction.snapshot]
    for place in sorted(newer):
        if is_concerned(transaction, place):
            return place
    return None


def make_ready(store, slot, most):
    transaction = store.slots[slot]
    if transaction is None or is_one_ready(store):
        return [NOT_NOW]
    net = net_changes(store, transaction)
    if net == []:
        transaction.ready = True
        return [0, transaction.snapshot, 0]
    place = place_of_another(store, transaction)
    if place is not None:
        close_slot(store, slot)
        return [1, place // ROWS, place % ROWS]
    if store.last == STAMP_MOST:
        return [FULL]
    length = group_length(net)
    if length > most:
        return [TOO_LONG]
    transaction.ready = True
    transaction.net = net
    return [0, store.last + 1, length] + group_bytes(store.last + 1, net)


def settle(store, slot, kept):
    transaction = store.slots[slot]
    if transaction is None or not transaction.ready:
        return [NOT_NOW]
    # The changes leave before their versions come, so that no more is held in between than may be.
    close_slot(store, slot)
    if kept == 1 and transaction.net != []:
        # No other stamp was given since ready: there's one ready transaction at a time.
        store.last += 1
        keep_versions(store, with_versions(store.versions, store.last, transaction.net))
    return [0]
