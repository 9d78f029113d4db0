"""Point 2: insert, change, remove, see."""

import unittest

from tests.helper import ask, back, begin, change, do, end, insert, last_of, point, remove, scan, see, store_with


class Insert(unittest.TestCase):
    def test_takes_the_least_row_of_its_table(self):
        self.assertEqual(
            ask(begin(0), insert(0, 0, [1]), insert(0, 0, [2]), insert(0, 63, [3]), insert(0, 0, [4]))[1:],
            [[0], [1], [0], [2]])

    def test_rows_of_other_transactions_are_passed_over(self):
        self.assertEqual(
            ask(begin(0), begin(15), insert(0, 7, []), insert(15, 7, []), insert(0, 7, []), insert(15, 7, []))[2:],
            [[0], [1], [2], [3]])

    def test_a_row_changed_to_gone_keeps_its_number(self):
        calls = (begin(0), insert(0, 0, [1]), remove(0, 0, 0), insert(0, 0, [2]), see(0, 0, 0), see(0, 0, 1))
        self.assertEqual(ask(*calls)[1:], [[0], [1], [1], [0], [1, 1, 2]])

    def test_an_undone_row_is_free_again(self):
        calls = (begin(0), insert(0, 0, [1]), point(0), insert(0, 0, [2]), insert(0, 0, [3]), back(0, 1),
                 insert(0, 0, [4]))
        self.assertEqual(last_of(*calls), [1])

    def test_a_row_changed_again_behind_the_point_stays_taken(self):
        calls = (begin(0), insert(0, 0, [1]), point(0), change(0, 0, 0, [2]), back(0, 1), insert(0, 0, [4]))
        self.assertEqual(last_of(*calls), [1])

    def test_the_least_free_row_is_found_between_others(self):
        calls = (begin(0), begin(1), insert(0, 0, []), insert(1, 0, []), insert(0, 0, []), end(1), insert(0, 0, [8]),
                 insert(0, 0, [9]))
        self.assertEqual(ask(*calls)[-2:], [[1], [3]])

    def test_rows_with_versions_are_passed_over_even_if_gone_or_above_the_snapshot(self):
        store = store_with({(2, 0): [(1, (5,)), (2, None)], (2, 2): [(2, ())]}, 0)
        do(store, begin(0))
        self.assertEqual([do(store, insert(0, 2, [1])) for _ in range(3)], [[1], [3], [4]])

    def test_a_full_table_is_refused_and_others_are_not(self):
        store = store_with({(1, row): [(1, ())] for row in range(65536)}, 1)
        do(store, begin(0))
        self.assertEqual(do(store, insert(0, 1, [])), [-6])
        self.assertEqual(do(store, insert(0, 0, [])), [0])
        self.assertEqual(do(store, insert(0, 2, [])), [0])
        store.versions.pop(65536 + 65535)
        self.assertEqual(do(store, insert(0, 1, [3])), [65535])
        self.assertEqual(do(store, insert(0, 1, [])), [-6])
        self.assertEqual(do(store, scan(0, 1, 65535, 9)), [1, 65535, 1, 3])

    def test_contents_of_0_and_of_16384_bytes(self):
        long = [k % 256 for k in range(16384)]
        calls = (begin(0), insert(0, 0, []), insert(0, 0, long), see(0, 0, 0), see(0, 0, 1))
        self.assertEqual(ask(*calls)[1:], [[0], [1], [1, 0], [1, 16384] + long])


class Change(unittest.TestCase):
    def test_changes_a_row_that_is_there(self):
        calls = (begin(0), insert(0, 3, [1, 2]), change(0, 3, 0, [255]), see(0, 3, 0))
        self.assertEqual(ask(*calls)[2:], [[1], [1, 1, 255]])

    def test_the_last_change_is_seen(self):
        calls = (begin(0), insert(0, 3, [1]), change(0, 3, 0, [2]), change(0, 3, 0, []), see(0, 3, 0))
        self.assertEqual(last_of(*calls), [1, 0])

    def test_answers_0_if_the_row_is_not_there_and_changes_nothing(self):
        calls = (begin(0), change(0, 0, 0, [1]), change(0, 63, 65535, [1]), see(0, 63, 65535), insert(0, 0, [2]))
        self.assertEqual(ask(*calls)[1:], [[0], [0], [0], [0]])

    def test_a_gone_row_is_not_there(self):
        calls = (begin(0), insert(0, 0, [1]), remove(0, 0, 0), change(0, 0, 0, [2]), see(0, 0, 0))
        self.assertEqual(ask(*calls)[2:], [[1], [0], [0]])

    def test_the_rows_of_another_transaction_are_not_there(self):
        calls = (begin(0), begin(1), insert(0, 0, [1]), change(1, 0, 0, [2]), see(0, 0, 0))
        self.assertEqual(ask(*calls)[3:], [[0], [1, 1, 1]])

    def test_tables_are_apart(self):
        calls = (begin(0), insert(0, 0, [1]), insert(0, 1, [2]), change(0, 1, 0, [3]), see(0, 0, 0), see(0, 1, 0))
        self.assertEqual(ask(*calls)[-2:], [[1, 1, 1], [1, 1, 3]])

    def test_the_last_row_of_a_table_is_not_the_first_of_the_following_one(self):
        store = store_with({(0, 65535): [(1, (4,))], (63, 65535): [(1, (5,))]}, 1)
        do(store, begin(0))
        self.assertEqual(do(store, change(0, 0, 65535, [6])), [1])
        self.assertEqual(do(store, see(0, 0, 65535)), [1, 1, 6])
        self.assertEqual(do(store, see(0, 1, 0)), [0])
        self.assertEqual(do(store, see(0, 63, 65535)), [1, 1, 5])


class Remove(unittest.TestCase):
    def test_the_row_is_gone(self):
        calls = (begin(0), insert(0, 0, [1]), insert(0, 0, [2]), remove(0, 0, 0), see(0, 0, 0), see(0, 0, 1))
        self.assertEqual(ask(*calls)[3:], [[1], [0], [1, 1, 2]])

    def test_answers_0_if_the_row_is_not_there(self):
        calls = (begin(0), remove(0, 0, 0), insert(0, 0, []), remove(0, 0, 0), remove(0, 0, 0), remove(0, 63, 65535))
        self.assertEqual(ask(*calls)[1:], [[0], [0], [1], [0], [0]])

    def test_the_rows_of_another_transaction_stay(self):
        calls = (begin(0), begin(1), insert(0, 0, [1]), remove(1, 0, 0), see(0, 0, 0))
        self.assertEqual(ask(*calls)[3:], [[0], [1, 1, 1]])


class See(unittest.TestCase):
    def test_answers_1_how_many_and_the_bytes(self):
        self.assertEqual(last_of(begin(0), insert(0, 0, [0, 7, 255]), see(0, 0, 0)), [1, 3, 0, 7, 255])

    def test_an_empty_row_is_there(self):
        self.assertEqual(last_of(begin(0), insert(0, 0, []), see(0, 0, 0)), [1, 0])

    def test_a_row_that_was_never_there(self):
        self.assertEqual(ask(begin(15), see(15, 0, 0), see(15, 63, 65535))[1:], [[0], [0]])


class Snapshots(unittest.TestCase):
    def setUp(self):
        self.store = store_with({
            (0, 0): [(1, (1,)), (2, (2,)), (3, (3,))],
            (0, 1): [(2, (5,)), (3, None)],
            (0, 2): [(3, (6,))],
        }, 0)
        for stamp in range(5):
            self.store.last = stamp
            do(self.store, begin(stamp))

    def seen(self, table, row):
        return [do(self.store, see(slot, table, row)) for slot in range(5)]

    def test_the_newest_version_not_above_the_snapshot_is_seen(self):
        self.assertEqual(self.seen(0, 0), [[0], [1, 1, 1], [1, 1, 2], [1, 1, 3], [1, 1, 3]])
        self.assertEqual(self.seen(0, 1), [[0], [0], [1, 1, 5], [0], [0]])
        self.assertEqual(self.seen(0, 2), [[0], [0], [0], [1, 1, 6], [1, 1, 6]])

    def test_the_own_last_change_comes_first(self):
        self.assertEqual(do(self.store, change(2, 0, 0, [9])), [1])
        self.assertEqual(self.seen(0, 0), [[0], [1, 1, 1], [1, 1, 9], [1, 1, 3], [1, 1, 3]])
        self.assertEqual(do(self.store, remove(2, 0, 0)), [1])
        self.assertEqual(do(self.store, see(2, 0, 0)), [0])
        self.assertEqual(do(self.store, change(2, 0, 0, [])), [0])

    def test_what_is_not_seen_is_not_there_for_change_and_remove(self):
        self.assertEqual([do(self.store, change(slot, 0, 1, [])) for slot in range(5)], [[0], [0], [1], [0], [0]])
        self.assertEqual([do(self.store, remove(slot, 0, 2)) for slot in range(5)], [[0], [0], [0], [1], [1]])


class Ready(unittest.TestCase):
    def test_a_ready_transaction_refuses_these_calls(self):
        store = store_with({(0, 0): [(1, (1,))]}, 1)
        do(store, begin(0))
        do(store, point(0))
        store.slots[0].ready = True
        for call in (insert(0, 0, []), change(0, 0, 0, []), remove(0, 0, 0), see(0, 0, 0), scan(0, 0, 0, 1),
                     point(0), back(0, 1), back(0, 2)):
            self.assertEqual(do(store, call), [-4])
        self.assertEqual((store.slots[0].changes, store.slots[0].points), ([], [0]))


if __name__ == "__main__":
    unittest.main()
