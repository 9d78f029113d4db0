"""When -2 and -4 are answered, and that all is as it was behind a refusal."""

import unittest

from tests.helper import (
    ask, back, begin, change, do, end, group, insert, picture, plain, point, ready, release, remove, replay, restore,
    scan, see, settle, shown, to)
from rowstamps.state import Store

FAR = (-131071, 131071)
SLOTS = (-1, 16) + FAR
TABLES = (-1, 64) + FAR
ROWS = (-1, 65536) + FAR
SWITCHES = (-1, 2) + FAR
MOSTS = (-1, 65537) + FAR
LONG = [0] * 16385


def used_store():
    store = Store()
    for call in (begin(0, 1), begin(1), insert(0, 0, [1]), point(0), insert(1, 0, [2]), change(0, 0, 0, [3]),
                 point(0), see(0, 63, 65535), insert(0, 63, [4]), begin(15), insert(15, 63, [])):
        do(store, call)
    return store


def calls_with_slot(slot):
    return [begin(slot), insert(slot, 0, [1]), change(slot, 0, 0, [1]), remove(slot, 0, 0), see(slot, 0, 0),
            scan(slot, 0, 0, 1), point(slot), back(slot, 1), end(slot), release(slot, 1), ready(slot), settle(slot),
            settle(slot, 0)]


class Arguments(unittest.TestCase):
    def refused(self, calls):
        store = used_store()
        before = plain(store)
        for call in calls:
            self.assertEqual(do(store, call), [-2], call)
        self.assertEqual(plain(store), before)

    def test_slots(self):
        for slot in SLOTS:
            self.refused(calls_with_slot(slot))

    def test_strict(self):
        self.refused([begin(slot, strict) for slot in (0, 5) for strict in SWITCHES])

    def test_tables(self):
        for table in TABLES:
            self.refused([insert(0, table, [1]), change(0, table, 0, [1]), remove(0, table, 0), see(0, table, 0),
                          scan(0, table, 0, 1)])

    def test_rows(self):
        for row in ROWS:
            self.refused([change(0, 0, row, [1]), remove(0, 0, row), see(0, 0, row), scan(0, 0, row, 1)])

    def test_most(self):
        self.refused([scan(0, 0, 0, most) for most in MOSTS])
        self.refused([ready(0, most) for most in (-1, -2, -131071)])
        self.refused([picture(most) for most in (-1, -2, -131071)])

    def test_kept(self):
        self.refused([settle(slot, kept) for slot in (0, 5) for kept in SWITCHES])

    def test_contents(self):
        self.refused([insert(0, 0, LONG), change(0, 0, 0, LONG), change(0, 0, 1, LONG), insert(0, 0, [0] * 16500)])

    def test_minus_2_comes_first(self):
        self.refused([see(5, 64, 0), insert(5, 0, LONG), change(5, 0, 0, LONG), remove(5, 0, -1), scan(5, 0, 0, -1),
                      begin(0, 2), back(16, 0), point(-1), release(16, 0), ready(5, -1), settle(5, 2), ready(16, -1)])

    def test_the_answer_is_one_number(self):
        self.assertEqual(ask(begin(16), see(0, 0, 0), begin(0, 2)), [[-2], [-4], [-2]])

    def test_the_calls_behind_a_refused_content_are_read(self):
        self.assertEqual(ask(begin(0), insert(0, 0, LONG), insert(0, 0, [5]), see(0, 0, 0)),
                         [[0, 0], [-2], [0], [1, 1, 5]])
        self.assertEqual(ask(begin(0), insert(0, 0, [5]), change(0, 0, 0, LONG), see(0, 0, 0)),
                         [[0, 0], [0], [-2], [1, 1, 5]])

    def test_the_edges_are_within(self):
        for slot in (0, 15):
            for table in (0, 63):
                told = ask(begin(slot, 1), insert(slot, table, [0] * 16384), change(slot, table, 65535, [0] * 16384),
                           change(slot, table, 0, [2]), remove(slot, table, 65535), see(slot, table, 65535),
                           see(slot, table, 0), scan(slot, table, 65535, 65536), scan(slot, table, 0, 0), end(slot))
                self.assertEqual(told, [[0, 0], [0], [0], [1], [0], [0], [1, 1, 2], [0], [0], [0]])


class NotNow(unittest.TestCase):
    def test_closed_slots(self):
        store = used_store()
        before = plain(store)
        for slot in (2, 14):
            for call in calls_with_slot(slot)[1:]:
                self.assertEqual(do(store, call), [-4], call)
        self.assertEqual(plain(store), before)

    def test_a_closed_slot_comes_before_a_point_that_is_not_there(self):
        for k in (0, 1, 64) + FAR:
            self.assertEqual(ask(back(0, k), release(0, k)), [[-4], [-4]])

    def test_a_ready_transaction(self):
        store = used_store()
        do(store, ready(0))
        before = plain(store)
        for call in calls_with_slot(0)[:-5] + [release(0, 1), ready(0), ready(1), ready(2), settle(1), settle(2, 0)]:
            self.assertEqual(do(store, call), [-4], call)
        self.assertEqual(plain(store), before)

    def test_while_a_slot_is_not_closed(self):
        store = used_store()
        before = plain(store)
        for call in (replay(group(1, to(0, 0, []))), replay([]), restore(shown(1)), restore([])):
            self.assertEqual(do(store, call), [-4], call)
        self.assertEqual(plain(store), before)

    def test_begin_on_a_slot_that_is_not_closed(self):
        store = used_store()
        before = plain(store)
        for slot in (0, 1, 15):
            self.assertEqual(do(store, begin(slot)), [-4])
        self.assertEqual(plain(store), before)


class Others(unittest.TestCase):
    def test_all_is_as_it_was_behind_a_point_that_is_not_there(self):
        store = used_store()
        before = plain(store)
        for k in (-1, 0, 3, 64, 65) + FAR:
            self.assertEqual(do(store, back(0, k)), [-5])
            self.assertEqual(do(store, release(0, k)), [-5])
        self.assertEqual(plain(store), before)

    def test_all_is_as_it_was_behind_too_many_points(self):
        store = used_store()
        for k in range(3, 65):
            self.assertEqual(do(store, point(0)), [k])
        before = plain(store)
        self.assertEqual(do(store, point(0)), [-6])
        self.assertEqual(plain(store), before)

    def test_all_is_as_it_was_behind_a_most_that_is_too_small(self):
        store = used_store()
        before = plain(store)
        for most in (0, 12, 28):
            self.assertEqual(do(store, ready(0, most)), [-7])
        for most in (0, 11):
            self.assertEqual(do(store, picture(most)), [-7])
        self.assertEqual(plain(store), before)


if __name__ == "__main__":
    unittest.main()
