"""Point 1: new, begin, end."""

import unittest

from tests.helper import ask, back, begin, do, end, insert, last_of, new, plain, point, see, store_with
from rowstamps.state import Store


class New(unittest.TestCase):
    def test_answers_0(self):
        self.assertEqual(ask(new()), [[0]])

    def test_closes_all_slots(self):
        calls = [begin(slot) for slot in range(16)]
        self.assertEqual(ask(*calls, new(), *calls)[-16:], [[0, 0]] * 16)
        self.assertEqual(last_of(begin(3), new(), see(3, 0, 0)), [-4])

    def test_forgets_changes_and_points(self):
        self.assertEqual(
            ask(begin(0), insert(0, 5, [1]), point(0), new(), begin(0), back(0, 1), insert(0, 5, [2])),
            [[0, 0], [0], [1], [0], [0, 0], [-5], [0]])

    def test_leaves_nothing_of_a_used_store(self):
        store = store_with({(0, 0): [(1, (7,))]}, 3)
        do(store, begin(0, 1))
        do(store, insert(0, 0, [1, 2]))
        self.assertEqual(do(store, new()), [0])
        self.assertEqual(plain(store), plain(Store()))
        self.assertEqual((store.last, store.versions, store.slots, store.held), (0, {}, [None] * 16, 0))


class Begin(unittest.TestCase):
    def test_answers_0_and_the_last_stamp(self):
        self.assertEqual(ask(begin(0), begin(15, 1)), [[0, 0], [0, 0]])
        self.assertEqual(do(store_with({}, 2 ** 62), begin(4)), [0, 2 ** 62])

    def test_refuses_a_slot_that_is_not_closed(self):
        self.assertEqual(ask(begin(0), begin(0), begin(0, 1)), [[0, 0], [-4], [-4]])

    def test_a_refused_begin_leaves_the_transaction_as_it_was(self):
        store = Store()
        for call in (begin(2, 1), insert(2, 0, [9]), point(2)):
            do(store, call)
        before = plain(store)
        self.assertEqual(do(store, begin(2, 0)), [-4])
        self.assertEqual(plain(store), before)

    def test_a_ready_transaction_keeps_its_slot(self):
        store = Store()
        do(store, begin(2))
        store.slots[2].ready = True
        self.assertEqual(do(store, begin(2)), [-4])

    def test_the_transaction_is_without_changes_points_and_looks(self):
        store = store_with({}, 6)
        do(store, begin(1, 1))
        kept = store.slots[1]
        self.assertEqual((kept.strict, kept.snapshot, kept.ready), (True, 6, False))
        self.assertEqual((kept.changes, kept.points, kept.looked), ([], [], {}))
        do(store, begin(2, 0))
        self.assertFalse(store.slots[2].strict)

    def test_the_snapshot_stays_when_the_last_stamp_rises(self):
        store = store_with({}, 6)
        do(store, begin(1))
        store.last = 9
        self.assertEqual(do(store, begin(2)), [0, 9])
        self.assertEqual((store.slots[1].snapshot, store.slots[2].snapshot), (6, 9))


class End(unittest.TestCase):
    def test_closes_the_slot(self):
        self.assertEqual(
            ask(begin(15), end(15), see(15, 0, 0), end(15), begin(15)),
            [[0, 0], [0], [-4], [-4], [0, 0]])

    def test_refuses_a_closed_slot(self):
        self.assertEqual(ask(end(0), begin(1), end(0)), [[-4], [0, 0], [-4]])

    def test_nothing_of_the_transaction_remains(self):
        store = store_with({(0, 3): [(1, (1, 2))]}, 1)
        do(store, begin(0))
        before = plain(store)
        for call in (begin(1, 1), insert(1, 0, [4]), insert(1, 0, [5]), point(1), end(1)):
            do(store, call)
        self.assertEqual(plain(store), before)
        self.assertEqual(do(store, insert(0, 0, [])), [0])

    def test_ends_a_ready_transaction(self):
        store = Store()
        do(store, begin(0))
        store.slots[0].ready = True
        self.assertEqual(do(store, end(0)), [0])
        self.assertIsNone(store.slots[0])


if __name__ == "__main__":
    unittest.main()
