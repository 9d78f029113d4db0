"""Point 6: replay; and what a group is."""

import unittest

from tests.helper import (
    ask, begin, change, do, end, gone, group, held_row, insert, low, picture, picture_with, plain, ready, ready_with,
    remove, replay, restore, see, settle, shown, store_with, to, told)
from rowstamps.store import answer_call

TOP = 2 ** 62
LONG = [k % 249 for k in range(16384)]


class Replay(unittest.TestCase):
    def test_the_changes_are_versions_now(self):
        calls = (replay(group(1, to(0, 0, [1, 2]), to(63, 65535, []))), told(), begin(0), see(0, 0, 0),
                 see(0, 63, 65535), see(0, 0, 1))
        self.assertEqual(ask(*calls), [[0, 1], [0, 1, 2, 130, 0], [0, 1], [1, 2, 1, 2], [1, 0], [0]])

    def test_one_behind_another(self):
        calls = (replay(group(1, to(0, 0, [1]))), replay(group(2, to(0, 0, [2]), to(0, 1, []))),
                 replay(group(3, gone(0, 0))), told(), picture())
        self.assertEqual(ask(*calls), [[0, 1], [0, 2], [0, 3], [0, 3, 1, 64, 0],
                                       picture_with(3, held_row(0, 1, 2, []))])

    def test_as_in_sweep(self):
        """Rows that the group doesn't name are swept too."""
        store = store_with({(0, 0): [(1, (1,)), (2, (2,))], (5, 5): [(1, (1,)), (2, None)], (6, 6): [(1, (7,))]}, 2)
        self.assertEqual(do(store, replay(group(3, to(9, 9, [])))), [0, 3])
        self.assertEqual(store.versions, {0: [(2, (2,))], 6 * 65536 + 6: [(1, (7,))], 9 * 65536 + 9: [(3, ())]})
        self.assertEqual(do(store, told()), [0, 3, 3, 65 + 65 + 64, 0])

    def test_a_gone_row_comes_anew(self):
        store = store_with({(0, 0): [(1, (1,)), (2, None)]}, 2)
        self.assertEqual(do(store, replay(group(3, to(0, 0, [9])))), [0, 3])
        self.assertEqual(store.versions, {0: [(3, (9,))]})

    def test_the_number_of_a_row_that_was_replayed_gone_is_free(self):
        calls = (replay(group(1, to(0, 0, []), to(0, 1, []))), replay(group(2, gone(0, 0))), begin(0),
                 insert(0, 0, [5]))
        self.assertEqual(ask(*calls), [[0, 1], [0, 2], [0, 2], [0]])

    def test_contents_of_0_and_of_16384_bytes(self):
        calls = (replay(group(1, to(0, 0, LONG), to(0, 1, []))), begin(0), see(0, 0, 0), see(0, 0, 1), told())
        self.assertEqual(ask(*calls), [[0, 1], [0, 1], [1, 16384, *LONG], [1, 0], [0, 1, 2, 128 + 16384, 1]])

    def test_many_rows(self):
        rows = [to(table, row, []) for table in (0, 63) for row in range(0, 65536, 20)]
        calls = (replay(group(1, *rows)), told())
        self.assertEqual(ask(*calls), [[0, 1], [0, 1, len(rows), 64 * len(rows), 0]])

    def test_the_last_stamp(self):
        calls = (restore(shown(TOP - 1)), replay(group(TOP, to(0, 0, []))), replay(group(TOP + 1, to(0, 0, []))),
                 replay(group(TOP, to(0, 0, []))), told())
        self.assertEqual(ask(*calls), [[0, TOP - 1], [0, TOP], [-3], [-3], [0, TOP, 1, 64, 0]])

    def test_stamps_of_many_bytes(self):
        for last in (254, 255, 256, 65535, 2 ** 32 - 1, 2 ** 32, 2 ** 56 - 1):
            self.assertEqual(ask(restore(shown(last)), replay(group(last + 1, to(0, 0, []))))[1], [0, last + 1])

    def test_what_ready_told_may_be_replayed(self):
        calls = (begin(0), insert(0, 0, [1]), insert(0, 1, []), ready(0), settle(0), begin(0), remove(0, 0, 0),
                 change(0, 1, 0, [2]), ready(0), settle(0))
        told_of = ask(*calls)
        self.assertEqual(ask(replay(told_of[3][3:]), replay(told_of[8][3:]), picture()),
                         [[0, 1], [0, 2], picture_with(2, held_row(1, 0, 2, [2]))])


class NoGroup(unittest.TestCase):
    def setUp(self):
        self.store = store_with({(0, 0): [(1, (1,)), (2, (2,))], (0, 3): [(1, ()), (3, None)], (0, 5): [(2, ())]}, 6)

    def refused(self, *wrong, number=-3):
        before = plain(self.store)
        for one in wrong:
            self.assertEqual(do(self.store, replay(one)), [number], one[:60])
        self.assertEqual(plain(self.store), before)

    def test_cut_short_or_too_long(self):
        whole = group(7, gone(0, 0), to(0, 3, [7, 8]), gone(0, 5), to(9, 9, []))
        self.refused(*[whole[:many] for many in range(len(whole))])
        self.refused(whole + [0], whole + to(9, 10, []), whole + whole)
        self.assertEqual(do(self.store, replay(whole)), [0, 7])

    def test_the_count(self):
        one = to(0, 1, [3])
        two = to(0, 2, [])
        self.refused(low(7, 8) + low(0, 4), low(7, 8) + low(0, 4) + one, low(7, 8) + low(2, 4) + one,
                     low(7, 8) + low(1, 4) + one + two, low(7, 8) + low(3, 4) + one + two,
                     low(7, 8) + low(2 ** 32 - 1, 4) + one, low(7, 8) + [0, 0, 0, 1] + one,
                     low(7, 8) + [1, 1, 0, 0] + one)

    def test_rows_that_do_not_rise(self):
        self.refused(group(7, to(0, 1, []), to(0, 1, [])), group(7, to(0, 2, []), to(0, 1, [])),
                     group(7, to(1, 0, []), to(0, 65535, [])), group(7, to(0, 256, []), to(0, 255, [])),
                     group(7, to(0, 0, []), gone(0, 0)), group(7, gone(0, 0), gone(0, 0)),
                     group(7, to(0, 1, []), to(0, 2, []), to(0, 1, [])))

    def test_rows_that_rise(self):
        whole = group(7, to(0, 255, []), to(0, 256, []), to(0, 65535, []), to(1, 0, []), to(63, 65535, []))
        self.assertEqual(do(self.store, replay(whole)), [0, 7])

    def test_tables(self):
        self.refused(*[group(7, to(table, 0, [])) for table in (64, 65, 128, 255)])
        self.refused(group(7, to(0, 1, []), to(64, 0, [])), group(7, gone(64, 0)))

    def test_stamps(self):
        self.refused(*[group(stamp, to(0, 1, [])) for stamp in (
            0, 1, 5, 6, 8, 7 + 256, 7 + 2 ** 32, TOP, TOP + 1, TOP + 7, 2 ** 63, 2 ** 63 + 7, 2 ** 64 - 1)])

    def test_neither_gone_nor_a_content(self):
        for kind in (2, 3, 128, 255):
            self.refused(group(7, [0, 1, 0, kind]), group(7, [0, 1, 0, kind] + low(0, 4)),
                         group(7, [0, 0, 0, kind]), group(7, [0, 1, 0, kind] + low(1, 4) + [5]))

    def test_contents(self):
        self.refused(group(7, to(0, 1, LONG + [0])), group(7, to(0, 1, LONG * 3)), group(7, [0, 1, 0, 1, 0, 0, 0, 128]),
                     group(7, [0, 1, 0, 1] + low(2 ** 32 - 1, 4) + [1] * 20), group(7, [0, 1, 0, 1] + low(2, 4) + [1]),
                     group(7, [0, 1, 0, 1] + low(0, 4) + [1]))

    def test_a_gone_row_that_is_not_there(self):
        self.refused(group(7, gone(0, 3)), group(7, gone(0, 1)), group(7, gone(63, 65535)),
                     group(7, gone(0, 0), gone(0, 3)), group(7, gone(0, 0), to(0, 1, []), gone(0, 4)))
        self.assertEqual(do(self.store, replay(group(7, gone(0, 0), to(0, 3, []), gone(0, 5)))), [0, 7])

    def test_a_picture_is_no_group(self):
        self.refused(shown(7, held_row(0, 0, 7, [1])), shown(7))

    def test_not_now_comes_before_no_group(self):
        good = group(7, to(0, 1, []))
        do(self.store, begin(15))
        self.refused(good, [], good[:-1], group(8, to(0, 1, [])), number=-4)
        do(self.store, ready(15))
        self.refused(good, [], number=-4)
        do(self.store, end(15))
        self.assertEqual(do(self.store, replay(good)), [0, 7])

    def test_each_slot_must_be_closed(self):
        for slot in range(16):
            calls = (begin(slot), replay(group(1, to(0, 0, []))), end(slot), replay(group(1, to(0, 0, []))))
            self.assertEqual(ask(*calls), [[0, 0], [-4], [0], [0, 1]])

    def test_longer_than_may_be(self):
        # A range has a length without holding its numbers; as a group it's a wrong one.
        do(self.store, begin(0))
        self.assertEqual(answer_call(self.store, 14, [range(67108865)]), [-2])
        do(self.store, end(0))
        self.assertEqual(answer_call(self.store, 14, [range(67108865)]), [-2])
        self.assertEqual(answer_call(self.store, 14, [range(67108864)]), [-3])


class Behind(unittest.TestCase):
    def test_a_group_made_behind_a_replay(self):
        calls = (replay(group(1, to(0, 0, [1]))), begin(0, 1), see(0, 0, 0), change(0, 0, 0, [2]), ready(0), settle(0),
                 replay(group(3, gone(0, 0))), told())
        self.assertEqual(ask(*calls)[4:], [ready_with(2, to(0, 0, [2])), [0], [0, 3], [0, 3, 0, 0, 0]])


if __name__ == "__main__":
    unittest.main()
