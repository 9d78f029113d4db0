"""Point 2: which rows a strict transaction has looked at."""

import unittest

from tests.helper import back, begin, change, do, insert, looked, point, remove, scan, see, store_with

LAST = 65535


def rows(*numbers, table=4):
    """A store with these rows, of one byte each, and a strict transaction in slot 0."""
    store = store_with({(table, row): [(1, (1,))] for row in numbers}, 1)
    do(store, begin(0, 1))
    return store


class Rows(unittest.TestCase):
    def test_see_looks_at_its_row_there_or_not(self):
        store = rows(3)
        do(store, see(0, 4, 3))
        do(store, see(0, 63, LAST))
        self.assertEqual(looked(store, 0), [(4, 3, 3), (63, LAST, LAST)])

    def test_insert_looks_at_the_row_it_took(self):
        store = rows(0, 1)
        self.assertEqual(do(store, insert(0, 4, [])), [2])
        self.assertEqual(looked(store, 0), [(4, 2, 2)])

    def test_change_looks_at_its_row_there_or_not(self):
        store = rows(3)
        self.assertEqual([do(store, change(0, 4, 3, [])), do(store, change(0, 4, 8, []))], [[1], [0]])
        self.assertEqual(looked(store, 0), [(4, 3, 3), (4, 8, 8)])

    def test_remove_looks_at_its_row_there_or_not(self):
        store = rows(3)
        self.assertEqual([do(store, remove(0, 4, 3)), do(store, remove(0, 0, 0))], [[1], [0]])
        self.assertEqual(looked(store, 0), [(0, 0, 0), (4, 3, 3)])

    def test_one_that_is_not_strict_looks_at_nothing(self):
        store = rows(3)
        do(store, begin(1, 0))
        for call in (see(1, 4, 3), insert(1, 4, []), change(1, 4, 3, []), remove(1, 4, 3), scan(1, 4, 0, 9)):
            do(store, call)
        self.assertEqual(looked(store, 1), [])

    def test_refused_calls_look_at_nothing(self):
        store = rows(3)
        for call in (see(0, 64, 3), insert(0, -1, []), change(0, 4, LAST + 1, []), remove(0, 4, -1),
                     scan(0, 4, 0, -1), change(0, 4, 3, [0] * 16385), see(1, 4, 3)):
            self.assertLess(do(store, call)[0], 0)
        self.assertEqual(looked(store, 0), [])

    def test_back_leaves_what_was_looked_at(self):
        store = rows(3)
        for call in (point(0), see(0, 4, 3), insert(0, 4, []), back(0, 1)):
            do(store, call)
        self.assertEqual(looked(store, 0), [(4, 0, 0), (4, 3, 3)])


class Scans(unittest.TestCase):
    def reach(self, store, start, most, table=4):
        do(store, scan(0, table, start, most))
        return looked(store, 0)

    def test_all_told_looks_to_the_end_of_the_table(self):
        self.assertEqual(self.reach(rows(1, 5), 1, 9), [(4, 1, LAST)])
        self.assertEqual(self.reach(rows(1, 5), 0, 9), [(4, 0, LAST)])

    def test_all_told_with_just_most(self):
        self.assertEqual(self.reach(rows(1, 5), 0, 2), [(4, 0, LAST)])
        self.assertEqual(self.reach(rows(1, 5), 2, 1), [(4, 2, LAST)])

    def test_none_there_looks_to_the_end_of_the_table(self):
        self.assertEqual(self.reach(rows(), 7, 9), [(4, 7, LAST)])
        self.assertEqual(self.reach(rows(), 7, 0), [(4, 7, LAST)])
        self.assertEqual(self.reach(rows(5), 6, 0), [(4, 6, LAST)])
        self.assertEqual(self.reach(rows(5), LAST, 1), [(4, LAST, LAST)])

    def test_most_told_looks_to_the_last_one_told(self):
        self.assertEqual(self.reach(rows(1, 5, 9), 0, 1), [(4, 0, 1)])
        self.assertEqual(self.reach(rows(1, 5, 9), 0, 2), [(4, 0, 5)])
        self.assertEqual(self.reach(rows(1, 5, 9), 2, 1), [(4, 2, 5)])

    def test_most_0_with_rows_there_looks_at_none(self):
        self.assertEqual(self.reach(rows(0, 5), 0, 0), [])
        self.assertEqual(self.reach(rows(3, 5), 0, 0), [])
        self.assertEqual(self.reach(rows(LAST), LAST, 0), [])

    def test_rows_that_are_gone_do_not_count_as_there(self):
        store = rows(1, 5, 9)
        do(store, remove(0, 4, 9))
        store.slots[0].looked = {}
        self.assertEqual(self.reach(store, 0, 2), [(4, 0, LAST)])

    def test_too_many_bytes_look_to_the_first_one_not_told(self):
        store = store_with({(4, 10 * k): [(1, (0,) * 16384)] for k in range(6)}, 1)
        do(store, begin(0, 1))
        self.assertEqual(self.reach(store, 0, 9), [(4, 0, 30)])
        store.slots[0].looked = {}
        self.assertEqual(self.reach(store, 5, 4), [(4, 5, 40)])

    def test_most_and_bytes_reached_at_once_look_to_the_last_one_told(self):
        store = store_with({(4, 10 * k): [(1, (0,) * 16384)] for k in range(6)}, 1)
        do(store, begin(0, 1))
        self.assertEqual(self.reach(store, 0, 3), [(4, 0, 20)])

    def test_the_last_table(self):
        self.assertEqual(self.reach(rows(3, table=63), 0, 9, table=63), [(63, 0, LAST)])


if __name__ == "__main__":
    unittest.main()
