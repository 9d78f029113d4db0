"""The calls on the store as a whole: sweep, replay, picture, restore, told."""

from rowstamps.forms import WrongForm, picture_bytes, picture_length, read_group, read_picture
from rowstamps.limits import FULL, NOT_NOW, TOO_LONG, WRONG_FORM
from rowstamps.state import keep_versions, open_transactions, with_versions


def many_versions(store):
    return sum([len(pairs) for pairs in store.versions.values()])


def is_there(store, place):
    """Whether the row's newest version isn't gone."""
    return place in store.versions and store.versions[place][-1][1] is not None


def staying(pairs, oldest):
    """Of a row's versions, rising by stamp, those that a sweep leaves."""
    start = 0
    for k, pair in enumerate(pairs):
        if pair[0] <= oldest:
            start = k + 1 if pair[1] is None else k
    return pairs[start:]


def swept(versions, oldest):
    left = {}
    for place, pairs in versions.items():
        stay = staying(pairs, oldest)
        # A row without versions is no key: else insert would pass its number over.
        if stay != []:
            left[place] = stay
    return left


def sweep(store):
    before = many_versions(store)
    snapshots = [transaction.snapshot for transaction in open_transactions(store)]
    keep_versions(store, swept(store.versions, min(snapshots, default=store.last)))
    return [before - many_versions(store)]


def may_follow(store, stamp, changes):
    """Whether a group with this stamp and these changes may come behind what is there."""
    if stamp != store.last + 1:
        return False
    for place, content in changes:
        if content is None and not is_there(store, place):
            return False
    return True


def replay(store, given):
    if open_transactions(store) != []:
        return [NOT_NOW]
    try:
        group = read_group(given)
    except WrongForm:
        return [WRONG_FORM]
    stamp = group[0]
    if not may_follow(store, stamp, group[1]):
        return [WRONG_FORM]
    if not keep_versions(store, swept(with_versions(store.versions, stamp, group[1]), stamp)):
        return [FULL]
    store.last = stamp
    return [0, stamp]


def rows_there(store):
    """Place, stamp and content of all rows whose newest version isn't gone, rising by place."""
    rows = []
    for place in sorted(store.versions):
        if is_there(store, place):
            newest = store.versions[place][-1]
            rows.append((place, newest[0], newest[1]))
    return rows


def show_picture(store, most):
    rows = rows_there(store)
    length = picture_length(rows)
    if length > most:
        return [TOO_LONG]
    return [0, length] + picture_bytes(store.last, rows)


def restore(store, given):
    if open_transactions(store) != []:
        return [NOT_NOW]
    try:
        picture = read_picture(given)
    except WrongForm:
        return [WRONG_FORM]
    versions = {}
    for place, stamp, content in picture[1]:
        versions[place] = [(stamp, content)]
    if not keep_versions(store, versions):
        return [FULL]
    store.last = picture[0]
    return [0, store.last]


def tell(store):
    return [0, store.last, many_versions(store), store.held, len(open_transactions(store))]
