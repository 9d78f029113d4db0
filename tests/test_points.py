"""Point 2: point, back and release."""

import unittest

from tests.helper import (
    ask, back, begin, change, do, end, insert, last_of, plain, point, ready, release, remove, scan, see, store_with,
    told)


class Point(unittest.TestCase):
    def test_answers_how_many_there_are(self):
        self.assertEqual(ask(begin(0), point(0), insert(0, 0, []), point(0), point(0))[1:], [[1], [0], [2], [3]])

    def test_each_transaction_has_its_own(self):
        self.assertEqual(ask(begin(0), begin(1), point(0), point(1), point(0), back(1, 2))[2:], [[1], [1], [2], [-5]])

    def test_64_are_full(self):
        told = ask(begin(0), *[point(0)] * 66, back(0, 64), point(0), back(0, 63), point(0), point(0))
        self.assertEqual(told[1:65], [[k] for k in range(1, 65)])
        self.assertEqual(told[65:], [[-6], [-6], [0], [-6], [0], [64], [-6]])

    def test_a_new_transaction_has_none(self):
        self.assertEqual(last_of(begin(0), point(0), end(0), begin(0), back(0, 1)), [-5])
        self.assertEqual(last_of(begin(0), point(0), end(0), begin(0), point(0)), [1])


class Back(unittest.TestCase):
    def test_undoes_what_was_changed_behind_the_point(self):
        calls = (begin(0), insert(0, 0, [1]), insert(0, 0, [2]), point(0), change(0, 0, 0, [3]), remove(0, 0, 1),
                 insert(0, 0, [4]), back(0, 1), scan(0, 0, 0, 9))
        self.assertEqual(ask(*calls)[-2:], [[0], [2, 0, 1, 1, 1, 1, 2]])

    def test_the_point_itself_stays(self):
        calls = (begin(0), point(0), insert(0, 0, [1]), back(0, 1), insert(0, 0, [2]), back(0, 1), see(0, 0, 0),
                 point(0))
        self.assertEqual(ask(*calls)[3:], [[0], [0], [0], [0], [2]])

    def test_to_an_earlier_point_than_the_last(self):
        calls = (begin(0), insert(0, 0, [1]), point(0), change(0, 0, 0, [2]), point(0), change(0, 0, 0, [3]),
                 point(0), change(0, 0, 0, [4]))
        self.assertEqual(ask(*calls, back(0, 2), see(0, 0, 0), back(0, 3), point(0))[-4:], [[0], [1, 1, 2], [-5], [3]])
        self.assertEqual(ask(*calls, back(0, 1), see(0, 0, 0), back(0, 2), point(0))[-4:], [[0], [1, 1, 1], [-5], [2]])
        self.assertEqual(ask(*calls, back(0, 3), see(0, 0, 0), back(0, 3), point(0))[-4:], [[0], [1, 1, 3], [0], [4]])

    def test_back_and_further_back(self):
        calls = (begin(0), point(0), insert(0, 0, [1]), point(0), insert(0, 0, [2]), back(0, 2), scan(0, 0, 0, 9),
                 back(0, 1), scan(0, 0, 0, 9))
        self.assertEqual(ask(*calls)[5:], [[0], [1, 0, 1, 1], [0], [0]])

    def test_two_points_at_one_place(self):
        calls = (begin(0), point(0), point(0), insert(0, 0, [1]), back(0, 2), see(0, 0, 0), back(0, 1), back(0, 2))
        self.assertEqual(ask(*calls)[4:], [[0], [0], [0], [-5]])

    def test_a_version_is_seen_again(self):
        store = store_with({(0, 0): [(1, (5,))]}, 1)
        for call in (begin(0), point(0), remove(0, 0, 0), back(0, 1)):
            do(store, call)
        self.assertEqual(do(store, see(0, 0, 0)), [1, 1, 5])

    def test_other_transactions_stay_as_they_are(self):
        calls = (begin(0), begin(1), point(0), point(1), insert(0, 0, [1]), insert(1, 0, [2]), back(0, 1),
                 see(1, 0, 1), see(0, 0, 0))
        self.assertEqual(ask(*calls)[-2:], [[1, 1, 2], [0]])

    def test_refuses_a_point_that_is_not_there(self):
        for k in (-131071, -2, -1, 0, 3, 4, 65, 131071):
            calls = (begin(0), point(0), insert(0, 0, [1]), point(0), back(0, k), see(0, 0, 0), point(0))
            self.assertEqual(ask(*calls)[4:], [[-5], [1, 1, 1], [3]])

    def test_refuses_without_points(self):
        self.assertEqual(last_of(begin(0), back(0, 1)), [-5])
        self.assertEqual(last_of(begin(0), back(0, 0)), [-5])


THREE = (begin(0), insert(0, 0, [1]), point(0), change(0, 0, 0, [2]), point(0), change(0, 0, 0, [3]), point(0),
         change(0, 0, 0, [4]))


class Release(unittest.TestCase):
    def test_forgets_the_point_and_those_behind_it(self):
        self.assertEqual(ask(*THREE, release(0, 3), back(0, 3), point(0))[-3:], [[0], [-5], [3]])
        self.assertEqual(ask(*THREE, release(0, 2), back(0, 3), back(0, 2), point(0))[-4:], [[0], [-5], [-5], [2]])
        self.assertEqual(ask(*THREE, release(0, 1), back(0, 3), back(0, 1), point(0))[-4:], [[0], [-5], [-5], [1]])

    def test_the_changes_stay(self):
        for k in (1, 2, 3):
            calls = (*THREE, told(), release(0, k), see(0, 0, 0), told())
            self.assertEqual(ask(*calls)[-4:], [[0, 0, 0, 260, 1], [0], [1, 1, 4], [0, 0, 0, 260, 1]])

    def test_the_points_before_it_stay_as_they_are(self):
        self.assertEqual(ask(*THREE, release(0, 2), back(0, 1), see(0, 0, 0))[-3:], [[0], [0], [1, 1, 1]])
        self.assertEqual(ask(*THREE, release(0, 3), back(0, 2), see(0, 0, 0))[-3:], [[0], [0], [1, 1, 2]])

    def test_a_point_set_anew_stands_behind_all_changes(self):
        calls = (*THREE, release(0, 1), point(0), change(0, 0, 0, [5]), back(0, 1), see(0, 0, 0))
        self.assertEqual(ask(*calls)[-4:], [[1], [1], [0], [1, 1, 4]])

    def test_there_is_room_for_points_again(self):
        told_of = ask(begin(0), *[point(0)] * 65, release(0, 64), point(0), point(0))
        self.assertEqual(told_of[-4:], [[-6], [0], [64], [-6]])

    def test_refuses_a_point_that_is_not_there(self):
        store = store_with({}, 0)
        for call in THREE:
            do(store, call)
        before = plain(store)
        for k in (-131071, -2, -1, 0, 4, 5, 64, 65, 131071):
            self.assertEqual(do(store, release(0, k)), [-5], k)
        self.assertEqual(plain(store), before)
        self.assertEqual(ask(begin(0), release(0, 1), point(0), release(0, 1), release(0, 1)),
                         [[0, 0], [-5], [1], [0], [-5]])

    def test_other_transactions_keep_their_points(self):
        calls = (begin(0), begin(1), point(0), point(1), release(0, 1), back(1, 1), back(0, 1))
        self.assertEqual(ask(*calls)[-3:], [[0], [0], [-5]])

    def test_not_now(self):
        self.assertEqual(ask(release(0, 1), begin(1), release(0, 0)), [[-4], [0, 0], [-4]])
        calls = (begin(0), point(0), ready(0), release(0, 1), release(0, 2))
        self.assertEqual(ask(*calls)[-2:], [[-4], [-4]])

    def test_what_was_looked_at_stays(self):
        store = store_with({(0, 3): [(1, (1,))]}, 1)
        for call in (begin(0, 1), point(0), see(0, 0, 3), release(0, 1)):
            do(store, call)
        self.assertEqual(list(store.slots[0].looked), [(3, 3)])


if __name__ == "__main__":
    unittest.main()
