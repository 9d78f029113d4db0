"""What is held, and that no more is than may be."""

import unittest

from tests.helper import (
    back, begin, change, do, end, gone, group, held_anew, insert, new, plain, point, ready, remove, replay, restore,
    scan, see, settle, shown, store_with, sweep, to)
from rowstamps.state import Store
from rowstamps.store import answer_call

MOST = 33554432


class Counted(unittest.TestCase):
    def held_behind(self, *calls):
        store = Store()
        for call in calls:
            do(store, call)
        self.assertEqual(store.held, held_anew(store))
        return store.held

    def test_64_for_each_change_and_its_bytes(self):
        self.assertEqual(self.held_behind(begin(0)), 0)
        self.assertEqual(self.held_behind(begin(0), insert(0, 0, [])), 64)
        self.assertEqual(self.held_behind(begin(0), insert(0, 0, [1, 2, 3])), 67)

    def test_each_change_of_one_row_counts(self):
        calls = (begin(0), insert(0, 0, [1, 2, 3]), change(0, 0, 0, [4]), remove(0, 0, 0))
        self.assertEqual(self.held_behind(*calls), 67 + 65 + 64)

    def test_what_changes_nothing_holds_nothing(self):
        calls = (begin(0), change(0, 0, 0, [1]), remove(0, 0, 0), see(0, 0, 0), scan(0, 0, 0, 9), point(0))
        self.assertEqual(self.held_behind(*calls), 0)

    def test_what_is_undone_or_ended_is_not_held(self):
        calls = (begin(0), begin(1), insert(0, 0, [1, 2]), point(0), insert(0, 0, [3]), change(0, 0, 0, [4, 5, 6]))
        self.assertEqual(self.held_behind(*calls, back(0, 1)), 66)
        self.assertEqual(self.held_behind(*calls, insert(1, 0, [7]), end(0)), 65)
        self.assertEqual(self.held_behind(*calls, new()), 0)

    def test_versions_count(self):
        store = store_with({(0, 0): [(1, (1, 2)), (2, None)]}, 2)
        do(store, begin(0))
        do(store, insert(0, 0, [3]))
        self.assertEqual(store.held, 66 + 64 + 65)


class Full(unittest.TestCase):
    def setUp(self):
        self.store = Store()
        do(self.store, begin(0, 1))
        do(self.store, begin(1))
        do(self.store, insert(0, 0, [7]))
        for k in range(2039):
            do(self.store, insert(1, 1 + k % 60, [0] * 16384))
        self.assertEqual(self.store.held, 65 + 2039 * 16448)
        self.left = MOST - self.store.held

    def refused(self, call):
        before = plain(self.store)
        self.assertEqual(do(self.store, call), [-6])
        self.assertEqual(plain(self.store), before)

    def fill_but_for(self, room):
        left = self.left - room
        self.assertEqual(do(self.store, insert(0, 62, [0] * 16384)), [0])
        self.assertEqual(do(self.store, insert(0, 62, [0] * (left - 16448 - 64))), [1])
        self.assertEqual(self.store.held, MOST - room)

    def test_just_as_much_as_may_be(self):
        self.fill_but_for(0)
        self.refused(insert(0, 0, []))
        self.refused(change(0, 0, 0, []))
        self.refused(remove(0, 0, 0))

    def test_insert_fits_to_the_byte(self):
        self.fill_but_for(70)
        self.refused(insert(0, 0, [1] * 7))
        self.assertEqual(do(self.store, insert(0, 0, [1] * 6)), [1])
        self.assertEqual(self.store.held, MOST)

    def test_change_fits_to_the_byte(self):
        self.fill_but_for(70)
        self.refused(change(0, 0, 0, [1] * 7))
        self.assertEqual(do(self.store, change(0, 0, 0, [1] * 6)), [1])

    def test_remove_holds_64(self):
        self.fill_but_for(64)
        self.assertEqual(do(self.store, remove(0, 0, 0)), [1])
        self.assertEqual(self.store.held, MOST)

    def test_remove_with_63_left(self):
        self.fill_but_for(63)
        self.refused(remove(0, 0, 0))

    def test_a_row_that_is_not_there_comes_before_full(self):
        self.fill_but_for(0)
        self.assertEqual(do(self.store, change(0, 0, 1, [1])), [0])
        self.assertEqual(do(self.store, remove(0, 0, 1)), [0])
        self.assertEqual(do(self.store, see(0, 0, 0)), [1, 1, 7])

    def test_there_is_room_again_behind_end(self):
        self.fill_but_for(0)
        self.assertEqual(do(self.store, end(1)), [0])
        self.assertEqual(do(self.store, insert(0, 0, [1])), [1])


class FullBehindReplay(unittest.TestCase):
    """Counted is what is held when the group's changes are there, and swept."""

    def setUp(self):
        self.versions = {(1, row): [(1, (0,) * 16384)] for row in range(2039)}
        self.versions[0, 0] = [(1, (0,) * 100)]

    def store(self, room, more=()):
        """A store that has so much room left."""
        self.versions.update(more)
        store = store_with(self.versions, 1)
        left = MOST - store.held - room
        for row in range(2):
            part = left // 2 if row == 0 else left - left // 2
            store.versions[2 * 65536 + row] = [(1, (0,) * (part - 64))]
        store.held = held_anew(store)
        self.assertEqual(store.held, MOST - room)
        return store

    def refused(self, store, *changes):
        before = plain(store)
        self.assertEqual(do(store, replay(group(2, *changes))), [-6])
        self.assertEqual(plain(store), before)

    def test_a_new_row_fits_to_the_byte(self):
        store = self.store(70)
        self.refused(store, to(0, 1, [1] * 7))
        self.assertEqual(do(store, replay(group(2, to(0, 1, [1] * 6)))), [0, 2])
        self.assertEqual((store.held, store.last), (MOST, 2))

    def test_the_version_before_it_makes_room(self):
        store = self.store(0)
        self.refused(store, to(0, 0, [1] * 101))
        self.refused(store, to(0, 0, [1] * 37), to(0, 1, []))
        self.assertEqual(do(store, replay(group(2, to(0, 0, [1] * 36), to(0, 1, [])))), [0, 2])
        self.assertEqual(store.held, MOST)

    def test_a_gone_row_makes_room(self):
        store = self.store(0)
        self.assertEqual(do(store, replay(group(2, gone(0, 0), to(0, 1, [1] * 100)))), [0, 2])
        self.assertEqual(store.held, MOST)

    def test_what_is_swept_elsewhere_makes_room(self):
        store = self.store(0, {(5, 5): [(1, None)]})
        self.refused(store, to(0, 1, [1]))
        self.assertEqual(do(store, replay(group(2, to(0, 1, [])))), [0, 2])
        self.assertEqual(store.held, MOST)

    def test_what_is_no_group_comes_before_full(self):
        store = self.store(0)
        self.assertEqual(do(store, replay(group(3, to(0, 1, [])))), [-3])
        self.assertEqual(do(store, replay(group(2, to(0, 1, []), gone(9, 9)))), [-3])


class FullBehindRestore(unittest.TestCase):
    """524288 rows of no bytes are as much as may be held."""

    @classmethod
    def setUpClass(cls):
        rest = (1).to_bytes(8, "little") + bytes(4)
        cls.rows = b"".join([bytes([place >> 16]) + (place & 65535).to_bytes(2, "little") + rest
                             for place in range(524289)])

    def picture_of(self, many):
        return tuple((1).to_bytes(8, "little") + many.to_bytes(4, "little") + self.rows[:15 * many])

    def test_just_as_much_as_may_be(self):
        store = store_with({(63, 0): [(3, (1, 2, 3))]}, 4)
        self.assertEqual(answer_call(store, 16, [self.picture_of(524288)]), [0, 1])
        self.assertEqual((store.held, len(store.versions), store.last), (MOST, 524288, 1))

    def test_one_row_more(self):
        store = store_with({(63, 0): [(3, (1, 2, 3))]}, 4)
        before = plain(store)
        self.assertEqual(answer_call(store, 16, [self.picture_of(524289)]), [-6])
        self.assertEqual(plain(store), before)


class BehindEachCall(unittest.TestCase):
    def test_commits_sweeps_and_restores(self):
        store = Store()
        calls = (replay(group(1, to(0, 0, [1]), to(0, 1, [2, 3]))), begin(0), change(0, 0, 0, [4, 5]), remove(0, 0, 1),
                 insert(0, 0, [6]), begin(1), ready(0), settle(0), sweep(), change(1, 0, 0, [7]), ready(1), sweep(),
                 begin(1), remove(1, 0, 0), ready(1), settle(1, 0), replay(group(3, gone(0, 0))), restore(shown(1)))
        due = [131, 131, 197, 261, 326, 326, 326, 131 + 66 + 64 + 65, 326, 326 + 65, 326, 131, 131, 195, 195, 131, 65,
               0]
        for call, held in zip(calls, due, strict=True):
            do(store, call)
            self.assertEqual((store.held, held_anew(store)), (held, held), call)


if __name__ == "__main__":
    unittest.main()
