"""Point 4: settle; and end beside it."""

import unittest

from tests.helper import (
    ask, begin, change, do, end, gone, group, insert, last_of, new, picture, picture_with, held_row, plain, point,
    ready, ready_with, release, remove, replay, scan, see, settle, store_with, sweep, to, told)

CHANGED = (replay(group(1, to(0, 0, [1]), to(0, 1, [2]))), begin(0), change(0, 0, 0, [3, 4]), remove(0, 0, 1),
           insert(0, 7, []), ready(0))


class Kept(unittest.TestCase):
    def test_the_changes_are_versions_now(self):
        calls = (*CHANGED, settle(0), begin(5), see(5, 0, 0), see(5, 0, 1), see(5, 7, 0))
        self.assertEqual(ask(*calls)[-5:], [[0], [0, 2], [1, 2, 3, 4], [0], [1, 0]])

    def test_the_stamp_is_the_last_and_the_versions_have_it(self):
        calls = (*CHANGED, settle(0), told(), picture())
        self.assertEqual(ask(*calls)[-2:], [[0, 2, 5, 65 + 65 + 66 + 64 + 64, 0],
                                            picture_with(2, held_row(0, 0, 2, [3, 4]), held_row(7, 0, 2, []))])

    def test_older_snapshots_stay_as_they_were(self):
        calls = (CHANGED[0], begin(9), *CHANGED[1:], settle(0), scan(9, 0, 0, 9), see(9, 7, 0), insert(9, 7, []))
        self.assertEqual(ask(*calls)[-3:], [[2, 0, 1, 1, 1, 1, 2], [0], [1]])

    def test_only_the_last_change_of_a_row_is_a_version(self):
        calls = (begin(0), insert(0, 0, [1]), change(0, 0, 0, [2, 2]), change(0, 0, 0, [3]), told(), ready(0), told(),
                 settle(0), told())
        self.assertEqual(ask(*calls)[4:], [[0, 0, 0, 65 + 66 + 65, 1], ready_with(1, to(0, 0, [3])),
                                           [0, 0, 0, 65 + 66 + 65, 1], [0], [0, 1, 1, 65, 0]])

    def test_a_gone_row_of_which_none_is_kept_leaves_nothing(self):
        calls = (begin(0), insert(0, 0, [1]), insert(0, 0, [2]), remove(0, 0, 0), ready(0), settle(0), told(), begin(0),
                 insert(0, 0, []))
        self.assertEqual(ask(*calls)[-3:], [[0, 1, 1, 65, 0], [0, 1], [0]])

    def test_without_net_changes_no_stamp_is_given(self):
        calls = (begin(0), insert(0, 0, [1]), remove(0, 0, 0), ready(0), settle(0), told(), begin(0))
        self.assertEqual(ask(*calls)[-3:], [[0], [0, 0, 0, 0, 0], [0, 0]])

    def test_others_beside_it_go_on(self):
        calls = (begin(0), begin(1), insert(0, 0, [1]), ready(0), insert(1, 0, [2]), settle(0), insert(1, 0, [3]),
                 scan(1, 0, 0, 9), begin(2), scan(2, 0, 0, 9))
        self.assertEqual(ask(*calls)[4:], [[1], [0], [2], [2, 1, 1, 2, 2, 1, 3], [0, 1], [1, 0, 1, 1]])

    def test_a_sweep_between_ready_and_settle(self):
        calls = (*CHANGED, sweep(), settle(0), told(), sweep(), told())
        self.assertEqual(ask(*calls)[-5:], [[0], [0], [0, 2, 5, 324, 0], [3], [0, 2, 2, 130, 0]])

    def test_held_at_the_most(self):
        store = store_with({(0, 0): [(1, (1,) * 16384)]}, 1)
        for call in (begin(0), change(0, 0, 0, [2] * 100), ready(0)):
            do(store, call)
        # As much is held as may be, so that the versions have no room beside the changes.
        spare = 33554432 - store.held
        store.versions[1] = [(1, (0,) * (spare - 64))]
        store.held += spare
        self.assertEqual(do(store, settle(0)), [0])
        self.assertEqual(do(store, told()), [0, 2, 3, 33554432, 0])


class NotKept(unittest.TestCase):
    def test_nothing_of_it_remains(self):
        for close in (settle(0, 0), end(0)):
            calls = (*CHANGED, close, told(), picture(), begin(0), scan(0, 0, 0, 9), insert(0, 7, []))
            self.assertEqual(ask(*calls)[-6:], [
                [0], [0, 1, 2, 130, 0], picture_with(1, held_row(0, 0, 1, [1]), held_row(0, 1, 1, [2])), [0, 1],
                [2, 0, 1, 1, 1, 1, 2], [0]])

    def test_the_stamp_is_given_to_another(self):
        for close in (settle(0, 0), end(0)):
            calls = (*CHANGED, close, begin(0), remove(0, 0, 0), ready(0))
            self.assertEqual(last_of(*calls), ready_with(2, gone(0, 0)))

    def test_without_net_changes(self):
        self.assertEqual(ask(begin(0), ready(0), settle(0, 0), settle(0, 0))[1:], [[0, 0, 0], [0], [-4]])

    def test_no_trace_in_the_store(self):
        store = store_with({(0, 0): [(1, (1,))]}, 1)
        do(store, begin(1))
        before = plain(store)
        for close in (settle(0, 0), end(0)):
            for call in (begin(0, 1), point(0), change(0, 0, 0, [2]), insert(0, 0, [3]), ready(0), close):
                self.assertGreaterEqual(do(store, call)[0], 0)
            self.assertEqual(plain(store), before)


class Refusals(unittest.TestCase):
    def setUp(self):
        self.store = store_with({(0, 0): [(1, (1,))]}, 1)
        for call in (begin(0), begin(1, 1), change(0, 0, 0, [2]), change(1, 0, 0, [3]), begin(2)):
            do(self.store, call)

    def refused(self, number, *calls):
        before = plain(self.store)
        for call in calls:
            self.assertEqual(do(self.store, call), [number], call)
        self.assertEqual(plain(self.store), before)

    def test_not_ready(self):
        self.refused(-4, *[settle(slot, kept) for slot in (0, 1, 2, 3, 15) for kept in (0, 1)])

    def test_another_is_ready(self):
        do(self.store, ready(0))
        self.refused(-4, *[settle(slot, kept) for slot in (1, 2, 3, 15) for kept in (0, 1)])
        self.assertEqual(do(self.store, settle(0)), [0])
        self.refused(-4, settle(0), settle(0, 0))

    def test_arguments(self):
        do(self.store, ready(0))
        self.refused(-2, settle(0, 2), settle(0, -1), settle(0, 131071), settle(0, -131071), settle(-1), settle(16),
                     settle(131071, 0), settle(-131071, 0), settle(5, 2))

    def test_a_ready_one_refuses_all_but_settle_and_end(self):
        do(self.store, point(0))
        do(self.store, ready(0))
        self.refused(-4, begin(0), insert(0, 0, []), change(0, 0, 0, []), remove(0, 0, 0), see(0, 0, 0),
                     scan(0, 0, 0, 1), point(0), release(0, 1), release(0, 2), ready(0))

    def test_behind_new_none_is_ready(self):
        self.assertEqual(ask(*CHANGED, new(), settle(0), begin(0), ready(0))[-4:], [[0], [-4], [0, 0], [0, 0, 0]])


if __name__ == "__main__":
    unittest.main()
