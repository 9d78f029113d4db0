"""What is kept: the versions of rows, the last stamp, and the slots with their transactions.

A row is named by its place, table * 65536 + row, so that places rise by table, then row.
A content is a tuple of bytes; where None stands in its stead, the row is gone.
"""

from rowstamps.limits import HELD_EACH, HELD_MOST, ROWS, SLOTS


class Transaction:
    """Changes are pairs of place and content; a point is how many changes there were before it.

    Latest has the last change of each place, so that no look at a row walks all the changes.
    Looked has pairs of places, the first and the last of a run of rows that was looked at.
    Net is empty until the transaction is ready, and then what ready told: settle keeps just that.
    """

    def __init__(self, strict, snapshot):
        self.strict = strict
        self.snapshot = snapshot
        self.changes = []
        self.latest = {}
        self.points = []
        self.looked = {}
        self.ready = False
        self.net = []


class Store:
    """Versions has, for each place with one, its pairs of stamp and content, rising by stamp."""

    def __init__(self):
        self.start_anew()

    def start_anew(self):
        self.last = 0
        self.versions = {}
        self.slots = [None] * SLOTS
        self.held = 0


def place_of(table, row):
    return table * ROWS + row


def weight(content):
    """How much is held for a version or a change with this content."""
    return HELD_EACH if content is None else HELD_EACH + len(content)


def has_room(store, content):
    return store.held + weight(content) <= HELD_MOST


def seen(store, transaction, place):
    """The content that the transaction sees; None if the row isn't there."""
    if place in transaction.latest:
        return transaction.latest[place]
    for stamp, content in reversed(store.versions.get(place, ())):
        if stamp <= transaction.snapshot:
            return content
    return None


def is_taken(store, place):
    """Whether a version of the row is kept, or a transaction has it among its changes."""
    if place in store.versions:
        return True
    for transaction in store.slots:
        if transaction is not None and place in transaction.latest:
            return True
    return False


def record_change(store, transaction, place, content):
    transaction.changes.append((place, content))
    transaction.latest[place] = content
    store.held += weight(content)


def undo_changes(store, transaction, many):
    """Leaves the first many changes, and undoes those behind them."""
    for place, content in transaction.changes[many:]:
        store.held -= weight(content)
    transaction.changes = transaction.changes[:many]
    transaction.latest = {}
    for place, content in transaction.changes:
        transaction.latest[place] = content


def close_slot(store, slot):
    """Closes a slot that isn't closed; nothing of its transaction remains."""
    undo_changes(store, store.slots[slot], 0)
    store.slots[slot] = None


def open_transactions(store):
    return [transaction for transaction in store.slots if transaction is not None]


def with_versions(versions, stamp, changes):
    """These versions, and the changes as versions with the stamp; what is handed in stays as it is."""
    more = dict(versions)
    for place, content in changes:
        more[place] = versions.get(place, []) + [(stamp, content)]
    return more


def held_by(versions):
    held = 0
    for pairs in versions.values():
        for stamp, content in pairs:
            held += weight(content)
    return held


def keep_versions(store, versions):
    """Keeps these versions alone; answers False, and leaves all as it was, if they are too much to be held."""
    held = store.held - held_by(store.versions) + held_by(versions)
    if held > HELD_MOST:
        return False
    store.versions = versions
    store.held = held
    return True


def look_at(transaction, first, last):
    """Notes the places from first to last; there are none if last is below first."""
    if transaction.strict and first <= last:
        transaction.looked[(first, last)] = True
