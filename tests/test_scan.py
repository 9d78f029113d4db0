"""Point 2: scan."""

import unittest

from tests.helper import ask, begin, change, do, insert, last_of, remove, scan, store_with

THREE = (begin(0), insert(0, 0, [1]), insert(0, 0, []), insert(0, 0, [2, 3]))


class Scan(unittest.TestCase):
    def test_tells_all_rows_in_order(self):
        self.assertEqual(last_of(*THREE, scan(0, 0, 0, 10)), [3, 0, 1, 1, 1, 0, 2, 2, 2, 3])

    def test_begins_at_the_number(self):
        self.assertEqual(last_of(*THREE, scan(0, 0, 1, 10)), [2, 1, 0, 2, 2, 2, 3])
        self.assertEqual(last_of(*THREE, scan(0, 0, 2, 10)), [1, 2, 2, 2, 3])
        self.assertEqual(last_of(*THREE, scan(0, 0, 3, 10)), [0])
        self.assertEqual(last_of(*THREE, scan(0, 0, 65535, 65536)), [0])

    def test_tells_most_at_the_most(self):
        self.assertEqual(last_of(*THREE, scan(0, 0, 0, 0)), [0])
        self.assertEqual(last_of(*THREE, scan(0, 0, 0, 1)), [1, 0, 1, 1])
        self.assertEqual(last_of(*THREE, scan(0, 0, 0, 2)), [2, 0, 1, 1, 1, 0])
        self.assertEqual(last_of(*THREE, scan(0, 0, 0, 3)), [3, 0, 1, 1, 1, 0, 2, 2, 2, 3])
        self.assertEqual(last_of(*THREE, scan(0, 0, 0, 65536)), [3, 0, 1, 1, 1, 0, 2, 2, 2, 3])

    def test_gone_rows_are_left_out_and_do_not_count(self):
        self.assertEqual(last_of(*THREE, remove(0, 0, 1), scan(0, 0, 0, 2)), [2, 0, 1, 1, 2, 2, 2, 3])

    def test_a_changed_row_is_told_once_with_its_last_content(self):
        self.assertEqual(last_of(*THREE, change(0, 0, 0, [8]), change(0, 0, 0, [9]), scan(0, 0, 0, 1)), [1, 0, 1, 9])

    def test_other_tables_and_other_transactions_are_left_out(self):
        calls = (begin(0), begin(1), insert(0, 0, [1]), insert(0, 1, [2]), insert(0, 2, [3]), insert(1, 1, [4]),
                 insert(0, 1, [5]), scan(0, 1, 0, 9), scan(1, 1, 0, 9), scan(0, 63, 0, 9))
        self.assertEqual(ask(*calls)[-3:], [[2, 0, 1, 2, 2, 1, 5], [1, 1, 1, 4], [0]])

    def test_an_empty_table(self):
        self.assertEqual(last_of(begin(0), scan(0, 0, 0, 65536)), [0])

    def test_the_edges_of_a_table(self):
        store = store_with({(0, 65535): [(1, (4,))], (1, 0): [(1, (5,))], (1, 65535): [(1, (6,))],
                            (2, 0): [(1, (7,))], (63, 65535): [(1, (8,))]}, 1)
        do(store, begin(0))
        self.assertEqual(do(store, scan(0, 1, 0, 9)), [2, 0, 1, 5, 65535, 1, 6])
        self.assertEqual(do(store, scan(0, 1, 65535, 9)), [1, 65535, 1, 6])
        self.assertEqual(do(store, scan(0, 0, 65535, 9)), [1, 65535, 1, 4])
        self.assertEqual(do(store, scan(0, 63, 65535, 9)), [1, 65535, 1, 8])

    def test_versions_and_changes_are_told_together_in_order(self):
        store = store_with({(0, 9): [(1, (9,))], (0, 1): [(1, (1,)), (2, (2,))], (0, 5): [(2, (5,))],
                            (0, 3): [(1, (3,))], (0, 4): [(1, None)]}, 1)
        do(store, begin(0))
        do(store, insert(0, 0, [10]))
        do(store, insert(0, 0, [11]))
        do(store, remove(0, 0, 3))
        self.assertEqual(do(store, scan(0, 0, 0, 9)), [4, 0, 1, 10, 1, 1, 1, 2, 1, 11, 9, 1, 9])
        self.assertEqual(do(store, scan(0, 0, 2, 1)), [1, 2, 1, 11])


class Bytes(unittest.TestCase):
    """A row counts its bytes and 8; they may be 65536 together."""

    def told(self, lengths, most=65536):
        store = store_with({(0, row): [(1, (7,) * length)] for row, length in enumerate(lengths)}, 1)
        do(store, begin(0))
        answer = do(store, scan(0, 0, 0, most))
        self.assertEqual(len(answer), 1 + sum(2 + length for length in lengths[:answer[0]]))
        return answer[0]

    def test_just_65536_are_told(self):
        self.assertEqual(self.told([16376] * 4), 4)
        self.assertEqual(self.told([16376] * 3 + [16375, 0]), 4)
        self.assertEqual(self.told([16384] * 3 + [16352]), 4)

    def test_one_more_is_not(self):
        self.assertEqual(self.told([16376] * 3 + [16377]), 3)
        self.assertEqual(self.told([16384] * 4), 3)
        self.assertEqual(self.told([16376] * 4 + [0]), 4)

    def test_a_later_shorter_row_is_not_told_in_its_stead(self):
        self.assertEqual(self.told([16384] * 4 + [0, 0]), 3)

    def test_empty_rows_count_8_each(self):
        self.assertEqual(self.told([0] * 8192), 8192)
        self.assertEqual(self.told([0] * 8193), 8192)

    def test_most_may_be_reached_first(self):
        self.assertEqual(self.told([16384] * 4, 2), 2)
        self.assertEqual(self.told([16384] * 4, 3), 3)
        self.assertEqual(self.told([16384] * 4, 4), 3)


if __name__ == "__main__":
    unittest.main()
