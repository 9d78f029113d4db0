"""The interface: one list in, one list out, and nothing kept in between."""

import contextlib
import io
import unittest

from tests.helper import ask, back, begin, change, insert, point, remove, scan, see
from rowstamps.store import answers


def some_calls():
    return sum((begin(0, 1), begin(15), insert(0, 0, [1, 2]), insert(15, 0, []), point(0), change(0, 0, 0, [3]),
                remove(15, 0, 1), see(0, 0, 0), back(0, 1), scan(0, 0, 0, 9), see(3, 0, 0), begin(16)), [])


class Interface(unittest.TestCase):
    def test_the_empty_list(self):
        self.assertEqual(answers([]), [])

    def test_each_answer_stands_behind_its_count(self):
        self.assertEqual(answers(some_calls()), [
            2, 0, 0, 2, 0, 0, 1, 0, 1, 1, 1, 1, 1, 1, 1, 1, 3, 1, 1, 3, 1, 0, 5, 1, 0, 2, 1, 2, 1, -4, 1, -2])

    def test_the_list_is_as_it_was(self):
        calls = some_calls()
        answers(calls)
        self.assertEqual(calls, some_calls())

    def test_the_list_is_not_changed_for_a_while_either(self):
        class Watched(list):
            def refuse(self, *given):
                raise AssertionError("the list was changed")
            append = extend = insert = pop = remove = clear = sort = reverse = refuse
            __setitem__ = __delitem__ = __iadd__ = __imul__ = refuse
        self.assertEqual(answers(Watched(some_calls())), answers(some_calls()))

    def test_a_second_time_is_as_the_first(self):
        first = answers(some_calls())
        self.assertEqual(answers(some_calls()), first)
        answers(begin(5))
        self.assertEqual(answers(some_calls()), first)

    def test_what_was_given_back_is_the_callers(self):
        first = answers(some_calls())
        copy = list(first)
        first.clear()
        self.assertEqual(answers(some_calls()), copy)

    def test_the_answer_is_a_list_of_whole_numbers(self):
        told = answers(some_calls())
        self.assertIs(type(told), list)
        self.assertEqual({type(number) for number in told}, {int})

    def test_nothing_is_printed(self):
        out, err = io.StringIO(), io.StringIO()
        with contextlib.redirect_stdout(out), contextlib.redirect_stderr(err):
            answers(some_calls())
        self.assertEqual((out.getvalue(), err.getvalue()), ("", ""))

    def test_transactions_in_all_slots_are_apart(self):
        calls = [begin(slot, slot % 2) for slot in range(16)]
        calls += [insert(slot, 9, [slot, slot]) for slot in range(16)]
        calls += [change(slot, 9, slot, [100 + slot]) for slot in range(0, 16, 3)]
        calls += [scan(slot, 9, 0, 65536) for slot in range(16)]
        told = ask(*calls)
        self.assertEqual(told[16:32], [[row] for row in range(16)])
        self.assertEqual(told[-16:], [
            [1, slot, 1, 100 + slot] if slot % 3 == 0 else [1, slot, 2, slot, slot] for slot in range(16)])


class Long(unittest.TestCase):
    def test_a_list_as_long_as_may_be(self):
        calls = [begin(0, 1)] + [insert(0, 0, [k] * 16384) for k in range(3)] + [insert(0, 0, [3] * 7300)]
        calls += [scan(0, 0, 0, 65536)] * 170
        handed = sum(calls, [])
        self.assertLessEqual(len(handed), 58000)
        told = answers(handed)
        rows = sum(([k, 16384] + [k] * 16384 for k in range(3)), []) + [3, 7300] + [3] * 7300
        one = [1 + len(rows), 4] + rows
        self.assertEqual(told[:3 + 8], [2, 0, 0, 1, 0, 1, 1, 1, 2, 1, 3])
        self.assertEqual(told[11:], one * 170)

    def test_300_calls(self):
        calls = [begin(0, 1)] + [insert(0, 0, [k % 256] * 150) for k in range(298)] + [scan(0, 0, 0, 65536)]
        told = ask(*calls)
        self.assertEqual(told[1:299], [[k] for k in range(298)])
        self.assertEqual(told[-1], [298] + sum(([k, 150] + [k % 256] * 150 for k in range(298)), []))


if __name__ == "__main__":
    unittest.main()
