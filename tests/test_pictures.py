"""Point 7: picture and restore; and what a picture is."""

import unittest

from tests.helper import (
    ask, begin, change, do, end, gone, group, held_row, insert, last_of, low, new, picture, picture_with, plain, ready,
    remove, replay, restore, scan, see, settle, shown, store_with, to, told)
from rowstamps.store import answer_call

TOP = 2 ** 62
LONG = [k % 247 for k in range(16384)]


class Picture(unittest.TestCase):
    def test_of_no_rows(self):
        self.assertEqual(ask(picture()), [[0, 12] + [0] * 12])
        self.assertEqual(last_of(restore(shown(TOP)), picture()), [0, 12, 0, 0, 0, 0, 0, 0, 0, 64, 0, 0, 0, 0])

    def test_the_bytes_one_by_one(self):
        calls = (restore(shown(258, held_row(2, 259, 257, [7, 255]))), picture())
        self.assertEqual(last_of(*calls), [0, 12 + 17, 2, 1, 0, 0, 0, 0, 0, 0, 1, 0, 0, 0,
                                           2, 3, 1, 1, 1, 0, 0, 0, 0, 0, 0, 2, 0, 0, 0, 7, 255])

    def test_the_newest_versions_rising_by_table_then_row(self):
        store = store_with({(63, 65535): [(3, ())], (0, 256): [(1, (1,)), (2, (2, 2))], (0, 255): [(3, (5,))],
                            (1, 0): [(1, (1,)), (3, None)], (1, 1): [(1, None), (2, ())], (0, 0): [(1, None)]}, 4)
        self.assertEqual(do(store, picture()), picture_with(
            4, held_row(0, 255, 3, [5]), held_row(0, 256, 2, [2, 2]), held_row(1, 1, 2, []),
            held_row(63, 65535, 3, [])))

    def test_changes_nothing(self):
        store = store_with({(0, 0): [(1, (1,)), (2, None)], (0, 1): [(1, ()), (2, (1,))]}, 2)
        do(store, begin(0))
        do(store, insert(0, 0, [1]))
        before = plain(store)
        for most in (0, 11, 12, 131071):
            do(store, picture(most))
        self.assertEqual(plain(store), before)

    def test_snapshots_and_changes_do_not_matter(self):
        calls = (replay(group(1, to(0, 0, [1]))), begin(0), begin(1), change(1, 0, 0, [2]), insert(1, 0, [3]),
                 picture(), ready(1), picture(), settle(1), picture())
        told_of = ask(*calls)
        before = picture_with(1, held_row(0, 0, 1, [1]))
        self.assertEqual([told_of[5], told_of[7]], [before, before])
        self.assertEqual(told_of[9], picture_with(2, held_row(0, 0, 2, [2]), held_row(0, 1, 2, [3])))

    def test_most_just_long_enough_and_one_less(self):
        for content in ([], [1], LONG):
            rows = (held_row(0, 0, 1, content), held_row(5, 5, 1, []))
            length = 12 + 15 + len(content) + 15
            calls = (restore(shown(1, *rows)), picture(length), picture(length - 1), picture(0), picture(131071))
            self.assertEqual(ask(*calls)[1:], [picture_with(1, *rows), [-7], [-7], picture_with(1, *rows)])

    def test_gone_rows_do_not_lengthen_it(self):
        calls = (replay(group(1, to(0, 0, [1]))), begin(0), remove(0, 0, 0), ready(0), settle(0), picture(11),
                 picture(12))
        self.assertEqual(ask(*calls)[-2:], [[-7], picture_with(2)])

    def test_arguments(self):
        self.assertEqual(ask(picture(-1), picture(-131071), begin(0), picture(-1)), [[-2], [-2], [0, 0], [-2]])


class Restore(unittest.TestCase):
    def test_its_rows_alone_are_kept(self):
        store = store_with({(0, 0): [(1, (1,)), (2, (2,))], (9, 9): [(1, ())]}, 2)
        self.assertEqual(do(store, restore(shown(300, held_row(0, 0, 7, [4]), held_row(63, 65535, 300, [])))), [0, 300])
        self.assertEqual(store.versions, {0: [(7, (4,))], 63 * 65536 + 65535: [(300, ())]})
        self.assertEqual(do(store, told()), [0, 300, 2, 129, 0])

    def test_what_was_restored_is_seen(self):
        calls = (restore(shown(2, held_row(0, 1, 1, [1]), held_row(0, 5, 2, LONG), held_row(63, 65535, 2, []))),
                 begin(0), scan(0, 0, 0, 9), see(0, 63, 65535), insert(0, 0, []), insert(0, 0, []))
        self.assertEqual(ask(*calls), [[0, 2], [0, 2], [2, 1, 1, 1, 5, 16384, *LONG], [1, 0], [0], [2]])

    def test_of_no_rows(self):
        for last in (0, 1, 255, 256, TOP - 1, TOP):
            calls = (replay(group(1, to(0, 0, [1]))), restore(shown(last)), told(), begin(0))
            self.assertEqual(ask(*calls)[1:], [[0, last], [0, last, 0, 0, 0], [0, last]])

    def test_the_last_stamp_may_fall(self):
        calls = (restore(shown(9, held_row(0, 0, 9, []))), restore(shown(3, held_row(0, 0, 3, [1]))), begin(0),
                 see(0, 0, 0))
        self.assertEqual(ask(*calls), [[0, 9], [0, 3], [0, 3], [1, 1, 1]])

    def test_the_edges_of_stamps(self):
        whole = shown(TOP, held_row(0, 0, 1, []), held_row(0, 1, TOP, []))
        self.assertEqual(ask(restore(whole), picture()), [[0, TOP], [0, len(whole), *whole]])

    def test_a_picture_brings_all_back(self):
        calls = (begin(0), insert(0, 0, [1]), insert(0, 5, [2]), ready(0), settle(0), begin(0), remove(0, 0, 0),
                 insert(0, 0, [3]), ready(0), settle(0), picture())
        whole = last_of(*calls)[2:]
        self.assertEqual(ask(restore(whole), picture(), told()),
                         [[0, 2], [0, len(whole), *whole], [0, 2, 2, 130, 0]])
        self.assertEqual(ask(*calls, new(), restore(whole), picture())[-2:], [[0, 2], [0, len(whole), *whole]])

    def test_a_picture_and_the_groups_behind_it(self):
        calls = (restore(shown(5, held_row(0, 0, 2, [1]), held_row(1, 0, 5, [2]))), replay(group(6, gone(0, 0))),
                 replay(group(7, to(0, 3, [4]), to(1, 0, []))), picture())
        self.assertEqual(ask(*calls), [[0, 5], [0, 6], [0, 7],
                                       picture_with(7, held_row(0, 3, 7, [4]), held_row(1, 0, 7, []))])


class NoPicture(unittest.TestCase):
    def setUp(self):
        self.store = store_with({(0, 0): [(1, (1,)), (2, (2,))], (0, 3): [(1, ()), (3, None)]}, 6)

    def refused(self, *wrong, number=-3):
        before = plain(self.store)
        for one in wrong:
            self.assertEqual(do(self.store, restore(one)), [number], one[:60])
        self.assertEqual(plain(self.store), before)

    def test_cut_short_or_too_long(self):
        whole = shown(7, held_row(0, 0, 1, [7, 8]), held_row(0, 5, 7, []), held_row(9, 9, 2, [1]))
        self.refused(*[whole[:many] for many in range(len(whole))])
        self.refused(whole + [0], whole + held_row(9, 10, 1, []), whole + whole, shown(7) + [0], shown(0) + [0])
        self.assertEqual(do(self.store, restore(whole)), [0, 7])

    def test_the_count(self):
        one = held_row(0, 1, 1, [3])
        two = held_row(0, 2, 1, [])
        self.refused(low(7, 8) + low(0, 4) + one, low(7, 8) + low(1, 4), low(7, 8) + low(2, 4) + one,
                     low(7, 8) + low(1, 4) + one + two, low(7, 8) + low(3, 4) + one + two,
                     low(7, 8) + low(2 ** 32 - 1, 4) + one, low(7, 8) + [0, 0, 0, 1] + one)

    def test_rows_that_do_not_rise(self):
        self.refused(shown(7, held_row(0, 1, 1, []), held_row(0, 1, 1, [])),
                     shown(7, held_row(0, 1, 1, []), held_row(0, 1, 2, [5])),
                     shown(7, held_row(0, 2, 1, []), held_row(0, 1, 2, [])),
                     shown(7, held_row(0, 256, 1, []), held_row(0, 255, 2, [])),
                     shown(7, held_row(1, 0, 1, []), held_row(0, 65535, 2, [])),
                     shown(7, held_row(0, 1, 1, []), held_row(0, 2, 1, []), held_row(0, 1, 1, [])))

    def test_tables(self):
        self.refused(*[shown(7, held_row(table, 0, 1, [])) for table in (64, 65, 128, 255)])
        self.refused(shown(7, held_row(0, 1, 1, []), held_row(64, 0, 1, [])))

    def test_stamps(self):
        self.refused(*[shown(last) for last in (TOP + 1, 2 ** 63, 2 ** 64 - 1)])
        self.refused(*[shown(7, held_row(0, 0, stamp, [])) for stamp in (0, 8, 7 + 256, TOP, 2 ** 64 - 1)])
        self.refused(shown(0, held_row(0, 0, 0, [])), shown(0, held_row(0, 0, 1, [])),
                     shown(TOP, held_row(0, 0, TOP + 1, [])), shown(7, held_row(0, 0, 7, []), held_row(0, 1, 8, [])))

    def test_contents(self):
        head = [0, 1, 0] + low(1, 8)
        self.refused(shown(7, held_row(0, 1, 1, LONG + [0])), shown(7, held_row(0, 1, 1, LONG * 3)),
                     shown(7, head + low(2, 4) + [1]), shown(7, head + low(0, 4) + [1]),
                     shown(7, head + low(2 ** 32 - 1, 4) + [1] * 20), shown(7, head + [0, 0, 0, 128]))

    def test_a_group_is_no_picture(self):
        self.refused(group(7, to(0, 0, [1])), group(7, gone(0, 0)))

    def test_not_now_comes_before_no_picture(self):
        do(self.store, begin(15))
        self.refused(shown(7), shown(0), [], shown(TOP + 1), number=-4)
        do(self.store, ready(15))
        self.refused(shown(7), [], number=-4)
        do(self.store, end(15))
        self.assertEqual(do(self.store, restore(shown(7))), [0, 7])

    def test_each_slot_must_be_closed(self):
        for slot in range(16):
            calls = (begin(slot), restore(shown(3)), end(slot), restore(shown(3)))
            self.assertEqual(ask(*calls), [[0, 0], [-4], [0], [0, 3]])

    def test_longer_than_may_be(self):
        # A range has a length without holding its numbers; as a picture it's a wrong one.
        do(self.store, begin(0))
        self.assertEqual(answer_call(self.store, 16, [range(67108865)]), [-2])
        do(self.store, end(0))
        self.assertEqual(answer_call(self.store, 16, [range(67108865)]), [-2])
        self.assertEqual(answer_call(self.store, 16, [range(67108864)]), [-3])


if __name__ == "__main__":
    unittest.main()
