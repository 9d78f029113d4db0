"""Point 5: sweep."""

import unittest

from tests.helper import (
    ask, begin, change, do, end, group, held_anew, insert, plain, ready, remove, replay, see, settle, store_with, sweep,
    to, told)


def dropped(versions, last, *snapshots):
    """How many a sweep drops, and what is kept then."""
    store = store_with(versions, last)
    for slot, stamp in enumerate(snapshots):
        store.last = stamp
        do(store, begin(slot))
    store.last = last
    answer = do(store, sweep())
    left = {(place // 65536, place % 65536): pairs for place, pairs in store.versions.items()}
    if store.held != held_anew(store):
        raise ValueError("held is wrong")
    return answer, left


ONE = (1, (1,))
TWO = (2, (2, 2))
GONE = (3, None)
FOUR = (4, ())


class Sweep(unittest.TestCase):
    def test_nothing_to_drop(self):
        self.assertEqual(ask(sweep(), sweep(), told()), [[0], [0], [0, 0, 0, 0, 0]])
        self.assertEqual(dropped({(0, 0): [ONE]}, 1), ([0], {(0, 0): [ONE]}))

    def test_all_closed_the_newest_stays(self):
        self.assertEqual(dropped({(0, 0): [ONE, TWO, GONE, FOUR]}, 4), ([3], {(0, 0): [FOUR]}))
        self.assertEqual(dropped({(0, 0): [ONE, TWO]}, 9), ([1], {(0, 0): [TWO]}))

    def test_all_closed_a_gone_row_is_dropped_whole(self):
        self.assertEqual(dropped({(0, 0): [ONE, TWO, GONE], (0, 1): [TWO]}, 3), ([3], {(0, 1): [TWO]}))
        self.assertEqual(dropped({(63, 65535): [GONE]}, 3), ([1], {}))

    def test_by_the_oldest_snapshot(self):
        rows = {(0, 0): [ONE, TWO, GONE, FOUR]}
        self.assertEqual(dropped(rows, 4, 0), ([0], rows))
        self.assertEqual(dropped(rows, 4, 1), ([0], rows))
        self.assertEqual(dropped(rows, 4, 2), ([1], {(0, 0): [TWO, GONE, FOUR]}))
        self.assertEqual(dropped(rows, 4, 3), ([3], {(0, 0): [FOUR]}))
        self.assertEqual(dropped(rows, 4, 4), ([3], {(0, 0): [FOUR]}))

    def test_the_least_snapshot_counts_wherever_it_is(self):
        rows = {(0, 0): [ONE, TWO, GONE, FOUR]}
        for snapshots in ((4, 2, 3), (2, 4, 4), (4, 3, 2), (3, 3, 2, 4)):
            self.assertEqual(dropped(rows, 4, *snapshots), ([1], {(0, 0): [TWO, GONE, FOUR]}), snapshots)

    def test_the_snapshot_is_between_stamps(self):
        rows = {(0, 0): [(2, (1,)), (5, (2,)), (9, (3,))], (1, 0): [(2, None), (5, (2,))], (2, 0): [(7, None)]}
        self.assertEqual(dropped(rows, 9, 4), ([1], {(0, 0): rows[0, 0], (1, 0): [(5, (2,))], (2, 0): [(7, None)]}))
        self.assertEqual(dropped(rows, 9, 6), ([2], {(0, 0): [(5, (2,)), (9, (3,))], (1, 0): [(5, (2,))],
                                                     (2, 0): [(7, None)]}))
        self.assertEqual(dropped(rows, 9), ([4], {(0, 0): [(9, (3,))], (1, 0): [(5, (2,))]}))

    def test_a_gone_one_above_the_oldest_stays(self):
        self.assertEqual(dropped({(0, 0): [ONE, GONE]}, 3, 2), ([0], {(0, 0): [ONE, GONE]}))
        self.assertEqual(dropped({(0, 0): [GONE, FOUR]}, 4, 2), ([0], {(0, 0): [GONE, FOUR]}))
        self.assertEqual(dropped({(0, 0): [GONE, FOUR]}, 4, 3), ([1], {(0, 0): [FOUR]}))

    def test_a_ready_ones_snapshot_counts(self):
        calls = (replay(group(1, to(0, 0, [1]))), begin(0), begin(1), change(1, 0, 0, [2]), ready(1), settle(1),
                 ready(0), sweep(), settle(0), sweep())
        self.assertEqual(ask(*calls)[-3:], [[0], [0], [1]])

    def test_twice_drops_nothing_more(self):
        store = store_with({(0, 0): [ONE, TWO, GONE], (5, 5): [ONE, FOUR]}, 4)
        self.assertEqual(do(store, sweep()), [4])
        before = plain(store)
        self.assertEqual(do(store, sweep()), [0])
        self.assertEqual(plain(store), before)

    def test_transactions_stay_as_they_are(self):
        store = store_with({(0, 0): [ONE, TWO], (0, 1): [ONE, GONE]}, 4)
        for call in (begin(0, 1), see(0, 0, 0), insert(0, 0, [7])):
            do(store, call)
        before = plain(store)[2]
        self.assertEqual(do(store, sweep()), [3])
        self.assertEqual(plain(store)[2], before)
        self.assertEqual([do(store, see(0, 0, row)) for row in range(3)], [[1, 2, 2, 2], [0], [1, 1, 7]])

    def test_what_each_sees_is_as_before(self):
        store = store_with({(0, row): pairs for row, pairs in enumerate(
            ([ONE], [GONE], [ONE, TWO, GONE, FOUR], [TWO, GONE], [FOUR], [ONE, FOUR]))}, 0)
        for stamp in range(1, 5):
            store.last = stamp
            do(store, begin(stamp))
        for closed in range(0, 5):
            if closed > 0:
                do(store, end(closed))
            seen = [do(store, see(slot, 0, row)) for slot in range(closed + 1, 5) for row in range(6)]
            do(store, sweep())
            self.assertEqual([do(store, see(slot, 0, row)) for slot in range(closed + 1, 5) for row in range(6)], seen)

    def test_the_number_of_a_dropped_row_is_free(self):
        calls = (replay(group(1, to(0, 0, [1]), to(0, 1, [2]))), begin(0), remove(0, 0, 0), ready(0), settle(0),
                 begin(0), insert(0, 0, [3]), sweep(), insert(0, 0, [4]), insert(0, 0, [5]))
        self.assertEqual(ask(*calls)[-5:], [[0, 2], [2], [2], [0], [3]])

    def test_a_dropped_row_that_comes_anew_is_told_and_kept(self):
        calls = (replay(group(1, to(0, 0, [1]))), begin(0), remove(0, 0, 0), ready(0), settle(0), sweep(), told(),
                 begin(0), insert(0, 0, [3]), remove(0, 0, 0), ready(0), settle(0), told())
        self.assertEqual(ask(*calls)[5:], [[2], [0, 2, 0, 0, 0], [0, 2], [0], [1], [0, 2, 0], [0], [0, 2, 0, 0, 0]])


if __name__ == "__main__":
    unittest.main()
