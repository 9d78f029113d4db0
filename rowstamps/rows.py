"""The calls on rows: insert, change, remove, see, scan."""

from rowstamps.limits import FULL, ROWS, SCAN_BYTES, SCAN_EACH
from rowstamps.state import has_room, is_taken, look_at, place_of, record_change, seen


def free_place(store, table):
    """The least place of the table that isn't taken; None if all are."""
    start = place_of(table, 0)
    for place in range(start, start + ROWS):
        if not is_taken(store, place):
            return place
    return None


def insert_row(store, transaction, table, content):
    place = free_place(store, table)
    if place is None or not has_room(store, content):
        return [FULL]
    look_at(transaction, place, place)
    record_change(store, transaction, place, content)
    return [place % ROWS]


def change_row(store, transaction, place, content):
    """Answers change, and with None for the content remove."""
    if seen(store, transaction, place) is None:
        look_at(transaction, place, place)
        return [0]
    if not has_room(store, content):
        return [FULL]
    look_at(transaction, place, place)
    record_change(store, transaction, place, content)
    return [1]


def see_row(store, transaction, place):
    look_at(transaction, place, place)
    content = seen(store, transaction, place)
    if content is None:
        return [0]
    return [1, len(content)] + list(content)


def known_places(store, transaction, first, last):
    """The places from first to last, in order, where the transaction may see something."""
    kept = [place for place in store.versions if first <= place <= last]
    own = [place for place in transaction.latest if first <= place <= last]
    return sorted(set(kept) | set(own))


def scan_rows(store, transaction, table, start, most):
    first = place_of(table, start)
    reach = place_of(table, ROWS - 1)
    last_told = first - 1
    told = []
    many = 0
    room = SCAN_BYTES
    for place in known_places(store, transaction, first, reach):
        content = seen(store, transaction, place)
        if content is None:
            continue
        if many == most:
            reach = last_told
            break
        room -= SCAN_EACH + len(content)
        if room < 0:
            reach = place
            break
        told.extend([place % ROWS, len(content)])
        told.extend(content)
        many += 1
        last_told = place
    look_at(transaction, first, reach)
    return [many] + told
