"""Point 8: told, behind each kind of call."""

import unittest

from tests.helper import (
    ask, back, begin, change, end, group, held_row, insert, new, picture, plain, point, ready, release, remove, replay,
    restore, scan, see, settle, shown, store_with, do, sweep, to, told)

STEPS = [
    (new(), [0, 0, 0, 0, 0]),
    (replay(group(1, to(0, 0, [1, 2]), to(0, 1, []))), [0, 1, 2, 130, 0]),
    (begin(0, 1), [0, 1, 2, 130, 1]),
    (begin(15), [0, 1, 2, 130, 2]),
    (insert(0, 0, [3, 4, 5]), [0, 1, 2, 197, 2]),
    (point(0), [0, 1, 2, 197, 2]),
    (change(0, 0, 0, [6]), [0, 1, 2, 262, 2]),
    (remove(0, 0, 1), [0, 1, 2, 326, 2]),
    (remove(0, 0, 1), [0, 1, 2, 326, 2]),
    (see(0, 0, 0), [0, 1, 2, 326, 2]),
    (scan(0, 0, 0, 9), [0, 1, 2, 326, 2]),
    (insert(15, 1, [7]), [0, 1, 2, 391, 2]),
    (insert(15, 64, [7]), [0, 1, 2, 391, 2]),
    (back(0, 1), [0, 1, 2, 262, 2]),
    (change(0, 0, 0, [6]), [0, 1, 2, 327, 2]),
    (release(0, 1), [0, 1, 2, 327, 2]),
    (ready(0), [0, 1, 2, 327, 2]),
    (settle(0), [0, 2, 4, 130 + 67 + 65 + 65, 1]),
    (sweep(), [0, 2, 4, 327, 1]),
    (picture(), [0, 2, 4, 327, 1]),
    (end(15), [0, 2, 4, 262, 0]),
    (sweep(), [0, 2, 3, 196, 0]),
    (begin(3), [0, 2, 3, 196, 1]),
    (remove(3, 0, 2), [0, 2, 3, 260, 1]),
    (ready(3), [0, 2, 3, 260, 1]),
    (settle(3, 0), [0, 2, 3, 196, 0]),
    (replay(group(4, to(0, 0, []))), [0, 2, 3, 196, 0]),
    (restore(shown(2 ** 62, held_row(9, 9, 5, [1] * 100))), [0, 2 ** 62, 1, 164, 0]),
    (new(), [0, 0, 0, 0, 0]),
]


class Told(unittest.TestCase):
    def test_a_new_store(self):
        self.assertEqual(ask(told()), [[0, 0, 0, 0, 0]])

    def test_behind_each_kind_of_call(self):
        calls = [part for call, _ in STEPS for part in (call, told())]
        self.assertEqual(ask(*calls)[1::2], [due for _, due in STEPS])

    def test_another_was_first(self):
        calls = (replay(group(1, to(0, 0, []))), begin(0), begin(1), change(0, 0, 0, []), change(1, 0, 0, [1]),
                 insert(1, 0, []), ready(0), settle(0), told(), ready(1), told())
        self.assertEqual(ask(*calls)[-3:], [[0, 2, 2, 128 + 65 + 64, 1], [1, 0, 0], [0, 2, 2, 128, 0]])

    def test_all_slots(self):
        calls = [part for slot in range(16) for part in (begin(slot), told())]
        self.assertEqual(ask(*calls)[1::2], [[0, 0, 0, 0, many] for many in range(1, 17)])

    def test_a_ready_one_is_not_closed(self):
        self.assertEqual(ask(begin(4), ready(4), told())[2], [0, 0, 0, 0, 1])

    def test_changes_nothing(self):
        store = store_with({(0, 0): [(1, (1,)), (2, None)]}, 2)
        do(store, begin(0, 1))
        before = plain(store)
        self.assertEqual(do(store, told()), [0, 2, 2, 129, 1])
        self.assertEqual(plain(store), before)


if __name__ == "__main__":
    unittest.main()
