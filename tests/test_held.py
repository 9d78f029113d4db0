"""What is held, and that no more is than may be."""

import unittest

from tests.helper import (
    back, begin, change, do, end, held_anew, insert, new, plain, point, remove, scan, see, store_with)
from rowstamps.state import Store

MOST = 33554432


class Counted(unittest.TestCase):
    def held_behind(self, *calls):
        store = Store()
        for call in calls:
            do(store, call)
        self.assertEqual(store.held, held_anew(store))
        return store.held

    def test_64_for_each_change_and_its_bytes(self):
        self.assertEqual(self.held_behind(begin(0)), 0)
        self.assertEqual(self.held_behind(begin(0), insert(0, 0, [])), 64)
        self.assertEqual(self.held_behind(begin(0), insert(0, 0, [1, 2, 3])), 67)

    def test_each_change_of_one_row_counts(self):
        calls = (begin(0), insert(0, 0, [1, 2, 3]), change(0, 0, 0, [4]), remove(0, 0, 0))
        self.assertEqual(self.held_behind(*calls), 67 + 65 + 64)

    def test_what_changes_nothing_holds_nothing(self):
        calls = (begin(0), change(0, 0, 0, [1]), remove(0, 0, 0), see(0, 0, 0), scan(0, 0, 0, 9), point(0))
        self.assertEqual(self.held_behind(*calls), 0)

    def test_what_is_undone_or_ended_is_not_held(self):
        calls = (begin(0), begin(1), insert(0, 0, [1, 2]), point(0), insert(0, 0, [3]), change(0, 0, 0, [4, 5, 6]))
        self.assertEqual(self.held_behind(*calls, back(0, 1)), 66)
        self.assertEqual(self.held_behind(*calls, insert(1, 0, [7]), end(0)), 65)
        self.assertEqual(self.held_behind(*calls, new()), 0)

    def test_versions_count(self):
        store = store_with({(0, 0): [(1, (1, 2)), (2, None)]}, 2)
        do(store, begin(0))
        do(store, insert(0, 0, [3]))
        self.assertEqual(store.held, 66 + 64 + 65)


class Full(unittest.TestCase):
    def setUp(self):
        self.store = Store()
        do(self.store, begin(0, 1))
        do(self.store, begin(1))
        do(self.store, insert(0, 0, [7]))
        for k in range(2039):
            do(self.store, insert(1, 1 + k % 60, [0] * 16384))
        self.assertEqual(self.store.held, 65 + 2039 * 16448)
        self.left = MOST - self.store.held

    def refused(self, call):
        before = plain(self.store)
        self.assertEqual(do(self.store, call), [-6])
        self.assertEqual(plain(self.store), before)

    def fill_but_for(self, room):
        left = self.left - room
        self.assertEqual(do(self.store, insert(0, 62, [0] * 16384)), [0])
        self.assertEqual(do(self.store, insert(0, 62, [0] * (left - 16448 - 64))), [1])
        self.assertEqual(self.store.held, MOST - room)

    def test_just_as_much_as_may_be(self):
        self.fill_but_for(0)
        self.refused(insert(0, 0, []))
        self.refused(change(0, 0, 0, []))
        self.refused(remove(0, 0, 0))

    def test_insert_fits_to_the_byte(self):
        self.fill_but_for(70)
        self.refused(insert(0, 0, [1] * 7))
        self.assertEqual(do(self.store, insert(0, 0, [1] * 6)), [1])
        self.assertEqual(self.store.held, MOST)

    def test_change_fits_to_the_byte(self):
        self.fill_but_for(70)
        self.refused(change(0, 0, 0, [1] * 7))
        self.assertEqual(do(self.store, change(0, 0, 0, [1] * 6)), [1])

    def test_remove_holds_64(self):
        self.fill_but_for(64)
        self.assertEqual(do(self.store, remove(0, 0, 0)), [1])
        self.assertEqual(self.store.held, MOST)

    def test_remove_with_63_left(self):
        self.fill_but_for(63)
        self.refused(remove(0, 0, 0))

    def test_a_row_that_is_not_there_comes_before_full(self):
        self.fill_but_for(0)
        self.assertEqual(do(self.store, change(0, 0, 1, [1])), [0])
        self.assertEqual(do(self.store, remove(0, 0, 1)), [0])
        self.assertEqual(do(self.store, see(0, 0, 0)), [1, 1, 7])

    def test_there_is_room_again_behind_end(self):
        self.fill_but_for(0)
        self.assertEqual(do(self.store, end(1)), [0])
        self.assertEqual(do(self.store, insert(0, 0, [1])), [1])


if __name__ == "__main__":
    unittest.main()
