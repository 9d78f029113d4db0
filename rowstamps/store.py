"""Answers a list of calls on one store, which is new at the list's beginning."""

from rowstamps.arguments import CALLS, Reader, all_fit
from rowstamps.commits import make_ready, settle
from rowstamps.limits import NOT_NOW, WRONG_ARGUMENTS
from rowstamps.rows import change_row, insert_row, scan_rows, see_row
from rowstamps.state import Store, place_of
from rowstamps.transactions import begin, end, go_back, make_new, release_point, set_point
from rowstamps.whole import replay, restore, show_picture, sweep, tell

# The calls without a slot, and those that may come though the slot is closed or its transaction ready.
WHOLE_CALLS = ("new", "sweep", "replay", "picture", "restore", "told")
SLOT_CALLS = ("begin", "end", "ready", "settle")


def answer_whole(store, name, given):
    if name == "new":
        return make_new(store)
    if name == "sweep":
        return sweep(store)
    if name == "replay":
        return replay(store, given[0])
    if name == "picture":
        return show_picture(store, given[0])
    if name == "restore":
        return restore(store, given[0])
    return tell(store)


def answer_slot(store, name, given):
    if name == "begin":
        return begin(store, given[0], given[1])
    if name == "end":
        return end(store, given[0])
    if name == "ready":
        return make_ready(store, given[0], given[1])
    return settle(store, given[0], given[1])


def answer_within(store, transaction, name, given):
    """Answers a call that is made within a transaction; given is what stands behind the slot."""
    if name == "point":
        return set_point(transaction)
    if name == "back":
        return go_back(store, transaction, given[0])
    if name == "release":
        return release_point(transaction, given[0])
    if name == "insert":
        return insert_row(store, transaction, given[0], given[1])
    if name == "scan":
        return scan_rows(store, transaction, given[0], given[1], given[2])
    place = place_of(given[0], given[1])
    if name == "see":
        return see_row(store, transaction, place)
    if name == "remove":
        return change_row(store, transaction, place, None)
    return change_row(store, transaction, place, given[2])


def answer_call(store, number, given):
    """The numbers that the call answers; a refusal stands alone."""
    name = CALLS[number][0]
    if not all_fit(CALLS[number][1:], given):
        return [WRONG_ARGUMENTS]
    if name in WHOLE_CALLS:
        return answer_whole(store, name, given)
    if name in SLOT_CALLS:
        return answer_slot(store, name, given)
    transaction = store.slots[given[0]]
    if transaction is None or transaction.ready:
        return [NOT_NOW]
    return answer_within(store, transaction, name, given[1:])


def answers(calls):
    store = Store()
    reader = Reader(calls)
    told = []
    while not reader.is_done():
        number = reader.take_number()
        answer = answer_call(store, number, reader.take_arguments(CALLS[number][1:]))
        told.append(len(answer))
        told.extend(answer)
    return told
