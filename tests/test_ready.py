"""Point 3: ready."""

import unittest

from tests.helper import (
    ask, back, begin, change, do, end, gone, group, held_row, insert, last_of, plain, point, ready, ready_with, remove,
    replay, restore, scan, see, settle, shown, store_with, sweep, to, told)

TOP = 2 ** 62


class Group(unittest.TestCase):
    def test_one_behind_another(self):
        calls = (begin(0), insert(0, 0, [1]), ready(0), settle(0), begin(0), change(0, 0, 0, [2]), ready(0), settle(0))
        self.assertEqual(ask(*calls), [[0, 0], [0], ready_with(1, to(0, 0, [1])), [0],
                                       [0, 1], [1], ready_with(2, to(0, 0, [2])), [0]])

    def test_the_bytes_one_by_one(self):
        self.assertEqual(
            last_of(replay(group(1, to(1, 0, []))), begin(0), remove(0, 1, 0), insert(0, 63, [7, 255]), ready(0)),
            [0, 2, 12 + 4 + 10, 2, 0, 0, 0, 0, 0, 0, 0, 2, 0, 0, 0, 1, 0, 0, 0, 63, 0, 0, 1, 2, 0, 0, 0, 7, 255])

    def test_rises_by_table_then_row(self):
        calls = (begin(0), insert(0, 63, [1]), insert(0, 2, [2]), insert(0, 2, [3]), insert(0, 0, [4]), ready(0))
        self.assertEqual(last_of(*calls), ready_with(1, to(0, 0, [4]), to(2, 0, [2]), to(2, 1, [3]), to(63, 0, [1])))

    def test_rows_rise_as_numbers(self):
        rows = [held_row(0, row, 1, []) for row in (1, 255, 256, 65535)]
        calls = (restore(shown(1, *rows)), begin(0), change(0, 0, 65535, [1]), change(0, 0, 256, [2]),
                 change(0, 0, 255, [3]), change(0, 0, 1, [4]), ready(0))
        self.assertEqual(last_of(*calls), ready_with(
            2, to(0, 1, [4]), to(0, 255, [3]), to(0, 256, [2]), to(0, 65535, [1])))

    def test_the_last_change_of_each_row_alone(self):
        calls = (begin(0), insert(0, 0, [1]), change(0, 0, 0, [2]), change(0, 0, 0, [3, 3]), ready(0))
        self.assertEqual(last_of(*calls), ready_with(1, to(0, 0, [3, 3])))

    def test_what_was_undone_is_not_told(self):
        calls = (begin(0), insert(0, 0, [1]), point(0), change(0, 0, 0, [2]), insert(0, 0, []), back(0, 1), ready(0))
        self.assertEqual(last_of(*calls), ready_with(1, to(0, 0, [1])))

    def test_a_row_gone_of_which_a_version_is_kept_is_told(self):
        calls = (replay(group(1, to(63, 65535, [1]))), begin(0), remove(0, 63, 65535), ready(0))
        self.assertEqual(last_of(*calls), ready_with(2, gone(63, 65535)))

    def test_a_row_gone_of_which_none_is_kept_is_not_told_beside_others(self):
        calls = (begin(0), insert(0, 0, [1]), insert(0, 0, [2]), remove(0, 0, 0), ready(0))
        self.assertEqual(last_of(*calls), ready_with(1, to(0, 1, [2])))

    def test_a_row_changed_to_what_it_was_is_told(self):
        calls = (replay(group(1, to(0, 0, [1]))), begin(0), change(0, 0, 0, [2]), change(0, 0, 0, [1]), ready(0))
        self.assertEqual(last_of(*calls), ready_with(2, to(0, 0, [1])))

    def test_contents_of_0_and_of_16384_bytes(self):
        long = [k % 251 for k in range(16384)]
        calls = (begin(15), insert(15, 0, []), insert(15, 63, long), ready(15))
        self.assertEqual(last_of(*calls), ready_with(1, to(0, 0, []), to(63, 0, long)))

    def test_the_stamp_is_the_last_and_1_not_the_snapshot_and_1(self):
        calls = (begin(0), begin(1), insert(0, 0, []), insert(1, 0, []), ready(0), settle(0), ready(1), settle(1))
        self.assertEqual(ask(*calls)[4:], [ready_with(1, to(0, 0, [])), [0], ready_with(2, to(0, 1, [])), [0]])

    def test_a_stamp_of_more_than_one_byte(self):
        calls = (restore(shown(65535)), begin(0), insert(0, 0, []), ready(0))
        self.assertEqual(last_of(*calls)[:11], [0, 65536, 20, 0, 0, 1, 0, 0, 0, 0, 0])


class NoNetChanges(unittest.TestCase):
    def test_without_changes(self):
        self.assertEqual(ask(begin(0), ready(0), told(), settle(0), told()),
                         [[0, 0], [0, 0, 0], [0, 0, 0, 0, 1], [0], [0, 0, 0, 0, 0]])

    def test_the_stamp_is_its_snapshot_though_the_last_is_above(self):
        calls = (begin(0), begin(1), insert(1, 0, []), ready(1), settle(1), ready(0), settle(0), told())
        self.assertEqual(ask(*calls)[-3:], [[0, 0, 0], [0], [0, 1, 1, 64, 0]])

    def test_gone_rows_of_which_no_version_is_kept(self):
        calls = (begin(0, 1), insert(0, 0, [1]), insert(0, 63, []), remove(0, 0, 0), remove(0, 63, 0), ready(0, 0))
        self.assertEqual(last_of(*calls), [0, 0, 0])

    def test_nobody_was_first_for_one_that_only_looked(self):
        calls = (replay(group(1, to(0, 0, [1]))), begin(0, 1), see(0, 0, 0), scan(0, 0, 0, 9), begin(1),
                 change(1, 0, 0, [2]), ready(1), settle(1), ready(0, 0))
        self.assertEqual(last_of(*calls), [0, 1, 0])

    def test_at_the_last_stamp(self):
        calls = (restore(shown(TOP)), begin(0), insert(0, 0, []), remove(0, 0, 0), ready(0, 0), settle(0), told())
        self.assertEqual(ask(*calls)[-3:], [[0, TOP, 0], [0], [0, TOP, 0, 0, 0]])

    def test_it_is_ready(self):
        calls = (begin(0), begin(1), ready(0), ready(0), see(0, 0, 0), insert(0, 0, []), ready(1), settle(0), ready(1))
        self.assertEqual(ask(*calls)[2:], [[0, 0, 0], [-4], [-4], [-4], [-4], [0], [0, 0, 0]])


class AnotherWasFirst(unittest.TestCase):
    ROWS = restore(shown(1, *[held_row(table, row, 1, [9]) for table in (0, 5) for row in (0, 3, 65535)]))

    def second(self, looking, changing, strict=0):
        """What ready answers to one that made the first calls, when another committed the second ones."""
        calls = (self.ROWS, begin(0, strict), *looking, begin(1), *changing, ready(1), settle(1), ready(0))
        return last_of(*calls)

    def test_by_a_change(self):
        theirs = [change(1, 5, 3, [1])]
        self.assertEqual(self.second([change(0, 5, 3, [2])], theirs), [1, 5, 3])
        self.assertEqual(self.second([remove(0, 5, 3)], theirs), [1, 5, 3])
        self.assertEqual(self.second([change(0, 5, 0, [2])], theirs), ready_with(3, to(5, 0, [2])))
        self.assertEqual(self.second([change(0, 0, 3, [2])], theirs), ready_with(3, to(0, 3, [2])))

    def test_by_a_remove(self):
        self.assertEqual(self.second([change(0, 0, 65535, [2])], [remove(1, 0, 65535)]), [1, 0, 65535])
        self.assertEqual(self.second([remove(0, 0, 65535)], [remove(1, 0, 65535)]), [1, 0, 65535])

    def test_by_a_look(self):
        theirs = [change(1, 5, 3, [1])]
        mine = [insert(0, 63, [])]
        good = ready_with(3, to(63, 0, []))
        for look in (see(0, 5, 3), scan(0, 5, 0, 9), scan(0, 5, 3, 1), scan(0, 5, 1, 1)):
            self.assertEqual(self.second([look] + mine, theirs, 1), [1, 5, 3], look)
            self.assertEqual(self.second([look] + mine, theirs, 0), good, look)
        for look in (see(0, 5, 0), see(0, 0, 3), scan(0, 5, 4, 9), scan(0, 5, 0, 1), scan(0, 0, 0, 9),
                     scan(0, 5, 0, 0)):
            self.assertEqual(self.second([look] + mine, theirs, 1), good, look)

    def test_by_a_look_at_rows_that_were_not_there(self):
        theirs = [insert(1, 5, [1])]
        for look in (see(0, 5, 1), change(0, 5, 1, []), remove(0, 5, 1), scan(0, 5, 1, 9), scan(0, 5, 0, 2)):
            self.assertEqual(self.second([look, insert(0, 63, [])], theirs, 1), [1, 5, 1], look)
            self.assertEqual(self.second([look, insert(0, 63, [])], theirs, 0), ready_with(3, to(63, 0, [])), look)

    def test_by_a_look_that_came_behind_the_others_commit(self):
        calls = (self.ROWS, begin(0, 1), begin(1), change(1, 0, 0, [1]), ready(1), settle(1), see(0, 0, 0),
                 insert(0, 63, []), ready(0))
        self.assertEqual(ask(*calls)[-3:], [[1, 1, 9], [0], [1, 0, 0]])

    def test_the_least_row_is_told(self):
        theirs = [change(1, 5, 3, []), change(1, 0, 65535, []), change(1, 0, 3, []), change(1, 5, 0, [])]
        self.assertEqual(self.second([change(0, 5, 3, [2]), change(0, 5, 0, [2])], theirs), [1, 5, 0])
        self.assertEqual(self.second([change(0, 5, 0, [2]), change(0, 0, 65535, [2])], theirs), [1, 0, 65535])
        self.assertEqual(self.second([change(0, 5, 3, []), see(0, 0, 3)], theirs, 1), [1, 0, 3])
        self.assertEqual(self.second([change(0, 0, 3, []), see(0, 5, 0)], theirs, 1), [1, 0, 3])

    def test_what_was_undone_counts_only_as_looked_at(self):
        mine = [point(0), change(0, 0, 3, [2]), back(0, 1), insert(0, 63, [])]
        self.assertEqual(self.second(mine, [change(1, 0, 3, [1])], 1), [1, 0, 3])
        self.assertEqual(self.second(mine, [change(1, 0, 3, [1])], 0), ready_with(3, to(63, 0, [])))

    def test_an_undone_insert_was_looked_at(self):
        mine = [point(0), insert(0, 0, [2]), back(0, 1), insert(0, 63, [])]
        self.assertEqual(self.second(mine, [insert(1, 0, [1])], 1), [1, 0, 1])
        self.assertEqual(self.second(mine, [insert(1, 0, [1])], 0), ready_with(3, to(63, 0, [])))

    def test_who_began_behind_the_commit_is_not_second(self):
        calls = (self.ROWS, begin(0, 1), change(0, 0, 0, [1]), ready(0), settle(0), begin(1, 1), see(1, 0, 0),
                 scan(1, 0, 0, 9), change(1, 0, 0, [2]), ready(1))
        self.assertEqual(last_of(*calls), ready_with(3, to(0, 0, [2])))

    def test_what_was_not_kept_is_not_first(self):
        calls = (self.ROWS, begin(0), begin(1), change(0, 0, 0, [1]), change(1, 0, 0, [2]))
        for close in (end(0), settle(0, 0)):
            self.assertEqual(last_of(*calls, ready(0), close, ready(1)), ready_with(2, to(0, 0, [2])))

    def test_nothing_of_the_transaction_remains(self):
        calls = (self.ROWS, begin(0, 1), begin(1), change(0, 0, 0, [1]), insert(0, 0, [3]), change(1, 0, 0, [2]),
                 ready(1), settle(1), told(), ready(0), told(), see(0, 0, 0), settle(0), begin(0), see(0, 0, 1),
                 insert(0, 0, []))
        self.assertEqual(ask(*calls)[-8:], [
            [0, 2, 7, 7 * 65 + 130, 1], [1, 0, 0], [0, 2, 7, 7 * 65, 0], [-4], [-4], [0, 2], [0], [1]])

    def test_comes_before_most_and_before_the_last_stamp(self):
        store = store_with({(0, 0): [(1, ()), (TOP, ())]}, 1)
        for call in (begin(0), change(0, 0, 0, [1])):
            do(store, call)
        store.last = TOP
        self.assertEqual(do(store, ready(0, 0)), [1, 0, 0])

    def test_a_sweep_between_leaves_what_was_first(self):
        calls = (self.ROWS, begin(0), change(0, 0, 0, [1]), begin(1), remove(1, 0, 0), ready(1), settle(1), sweep(),
                 ready(0), sweep())
        self.assertEqual(ask(*calls)[-3:], [[0], [1, 0, 0], [2]])


class Refusals(unittest.TestCase):
    def refused(self, store, call, number):
        before = plain(store)
        self.assertEqual(do(store, call), [number])
        self.assertEqual(plain(store), before)

    def test_closed(self):
        self.assertEqual(ask(ready(0), begin(1), ready(0), ready(15)), [[-4], [0, 0], [-4], [-4]])

    def test_another_is_ready(self):
        store = store_with({(0, 0): [(1, ())]}, 1)
        for call in (begin(0), begin(15, 1), change(0, 0, 0, [1]), change(15, 0, 0, [2]), ready(0)):
            do(store, call)
        for slot in (0, 15, 3):
            self.refused(store, ready(slot), -4)

    def test_another_without_net_changes_is_ready(self):
        self.assertEqual(ask(begin(0), begin(1), ready(0), ready(1), settle(0), ready(1))[2:],
                         [[0, 0, 0], [-4], [0], [0, 0, 0]])

    def test_another_that_was_second_is_not_ready(self):
        calls = (replay(group(1, to(0, 0, []))), begin(0), begin(1), begin(2), change(0, 0, 0, [1]),
                 change(1, 0, 0, [2]), ready(0), settle(0), ready(1), ready(2))
        self.assertEqual(ask(*calls)[-2:], [[1, 0, 0], [0, 1, 0]])

    def test_most_just_long_enough_and_one_less(self):
        for content in ([], [1], [2] * 16384):
            store = store_with({(1, 1): [(1, ())]}, 1)
            for call in (begin(0, 1), insert(0, 0, content), remove(0, 1, 1), point(0)):
                do(store, call)
            length = 12 + 8 + len(content) + 4
            self.refused(store, ready(0, length - 1), -7)
            self.refused(store, ready(0, 0), -7)
            self.assertEqual(do(store, ready(0, length)), ready_with(2, to(0, 0, content), gone(1, 1)))

    def test_the_last_stamp_comes_before_most(self):
        store = store_with({}, TOP)
        for call in (begin(0), insert(0, 0, [1])):
            do(store, call)
        self.refused(store, ready(0, 0), -6)
        self.refused(store, ready(0), -6)

    def test_one_below_the_last_stamp(self):
        calls = (restore(shown(TOP - 1)), begin(0), begin(1), insert(0, 0, [1]), insert(1, 0, [2]), ready(0, 0),
                 ready(0), settle(0), ready(1), begin(2))
        self.assertEqual(ask(*calls)[-5:], [[-7], ready_with(TOP, to(0, 0, [1])), [0], [-6], [0, TOP]])

    def test_the_call_goes_on_behind_a_refusal(self):
        calls = (begin(0), insert(0, 0, [1]), ready(0, 0), change(0, 0, 0, [2, 3]), ready(0, 21), ready(0, 22))
        self.assertEqual(ask(*calls)[2:], [[-7], [1], [-7], ready_with(1, to(0, 0, [2, 3]))])

    def test_arguments(self):
        store = store_with({}, 0)
        for call in (begin(0), insert(0, 0, [1])):
            do(store, call)
        for call in (ready(-1), ready(16), ready(131071), ready(-131071), ready(0, -1), ready(0, -131071),
                     ready(5, -1)):
            self.refused(store, call, -2)


if __name__ == "__main__":
    unittest.main()
