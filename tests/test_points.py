"""Point 2: point and back."""

import unittest

from tests.helper import ask, back, begin, change, do, end, insert, last_of, point, remove, scan, see, store_with


class Point(unittest.TestCase):
    def test_answers_how_many_there_are(self):
        self.assertEqual(ask(begin(0), point(0), insert(0, 0, []), point(0), point(0))[1:], [[1], [0], [2], [3]])

    def test_each_transaction_has_its_own(self):
        self.assertEqual(ask(begin(0), begin(1), point(0), point(1), point(0), back(1, 2))[2:], [[1], [1], [2], [-5]])

    def test_64_are_full(self):
        told = ask(begin(0), *[point(0)] * 66, back(0, 64), point(0), back(0, 63), point(0), point(0))
        self.assertEqual(told[1:65], [[k] for k in range(1, 65)])
        self.assertEqual(told[65:], [[-6], [-6], [0], [-6], [0], [64], [-6]])

    def test_a_new_transaction_has_none(self):
        self.assertEqual(last_of(begin(0), point(0), end(0), begin(0), back(0, 1)), [-5])
        self.assertEqual(last_of(begin(0), point(0), end(0), begin(0), point(0)), [1])


class Back(unittest.TestCase):
    def test_undoes_what_was_changed_behind_the_point(self):
        calls = (begin(0), insert(0, 0, [1]), insert(0, 0, [2]), point(0), change(0, 0, 0, [3]), remove(0, 0, 1),
                 insert(0, 0, [4]), back(0, 1), scan(0, 0, 0, 9))
        self.assertEqual(ask(*calls)[-2:], [[0], [2, 0, 1, 1, 1, 1, 2]])

    def test_the_point_itself_stays(self):
        calls = (begin(0), point(0), insert(0, 0, [1]), back(0, 1), insert(0, 0, [2]), back(0, 1), see(0, 0, 0),
                 point(0))
        self.assertEqual(ask(*calls)[3:], [[0], [0], [0], [0], [2]])

    def test_to_an_earlier_point_than_the_last(self):
        calls = (begin(0), insert(0, 0, [1]), point(0), change(0, 0, 0, [2]), point(0), change(0, 0, 0, [3]),
                 point(0), change(0, 0, 0, [4]))
        self.assertEqual(ask(*calls, back(0, 2), see(0, 0, 0), back(0, 3), point(0))[-4:], [[0], [1, 1, 2], [-5], [3]])
        self.assertEqual(ask(*calls, back(0, 1), see(0, 0, 0), back(0, 2), point(0))[-4:], [[0], [1, 1, 1], [-5], [2]])
        self.assertEqual(ask(*calls, back(0, 3), see(0, 0, 0), back(0, 3), point(0))[-4:], [[0], [1, 1, 3], [0], [4]])

    def test_back_and_further_back(self):
        calls = (begin(0), point(0), insert(0, 0, [1]), point(0), insert(0, 0, [2]), back(0, 2), scan(0, 0, 0, 9),
                 back(0, 1), scan(0, 0, 0, 9))
        self.assertEqual(ask(*calls)[5:], [[0], [1, 0, 1, 1], [0], [0]])

    def test_two_points_at_one_place(self):
        calls = (begin(0), point(0), point(0), insert(0, 0, [1]), back(0, 2), see(0, 0, 0), back(0, 1), back(0, 2))
        self.assertEqual(ask(*calls)[4:], [[0], [0], [0], [-5]])

    def test_a_version_is_seen_again(self):
        store = store_with({(0, 0): [(1, (5,))]}, 1)
        for call in (begin(0), point(0), remove(0, 0, 0), back(0, 1)):
            do(store, call)
        self.assertEqual(do(store, see(0, 0, 0)), [1, 1, 5])

    def test_other_transactions_stay_as_they_are(self):
        calls = (begin(0), begin(1), point(0), point(1), insert(0, 0, [1]), insert(1, 0, [2]), back(0, 1),
                 see(1, 0, 1), see(0, 0, 0))
        self.assertEqual(ask(*calls)[-2:], [[1, 1, 2], [0]])

    def test_refuses_a_point_that_is_not_there(self):
        for k in (-131071, -2, -1, 0, 3, 4, 65, 131071):
            calls = (begin(0), point(0), insert(0, 0, [1]), point(0), back(0, k), see(0, 0, 0), point(0))
            self.assertEqual(ask(*calls)[4:], [[-5], [1, 1, 1], [3]])

    def test_refuses_without_points(self):
        self.assertEqual(last_of(begin(0), back(0, 1)), [-5])
        self.assertEqual(last_of(begin(0), back(0, 0)), [-5])


if __name__ == "__main__":
    unittest.main()
