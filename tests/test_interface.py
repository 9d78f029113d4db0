"""The interface: one list in, one list out, and nothing kept in between."""

import contextlib
import io
import unittest

from tests.helper import (
    ask, back, begin, change, end, gone, group, held_row, insert, new, picture, point, ready, release, remove, replay,
    restore, scan, see, settle, shown, sweep, to, told)
from rowstamps.store import answers


def some_calls():
    return sum((begin(0, 1), begin(15), insert(0, 0, [1, 2]), insert(15, 0, []), point(0), change(0, 0, 0, [3]),
                remove(15, 0, 1), see(0, 0, 0), back(0, 1), scan(0, 0, 0, 9), see(3, 0, 0), begin(16)), [])


def all_calls():
    """Each of the eighteen, and an answer of each form."""
    return some_calls() + sum((
        release(0, 1), release(0, 1), ready(0, 0), ready(0), settle(15), settle(0), ready(15), settle(15, 0), sweep(),
        picture(), picture(0), replay(group(2, gone(0, 0))), replay([1]), restore(shown(9, held_row(5, 0, 3, [1]))),
        restore([2]), begin(1), remove(1, 5, 0), begin(2), change(2, 5, 0, []), ready(1), settle(1), ready(2), told(),
        begin(2), end(2), new(), replay(group(1, to(0, 0, []))), told()), [])


class Interface(unittest.TestCase):
    def test_the_empty_list(self):
        self.assertEqual(answers([]), [])

    def test_each_answer_stands_behind_its_count(self):
        self.assertEqual(answers(some_calls()), [
            2, 0, 0, 2, 0, 0, 1, 0, 1, 1, 1, 1, 1, 1, 1, 1, 3, 1, 1, 3, 1, 0, 5, 1, 0, 2, 1, 2, 1, -4, 1, -2])

    def test_the_other_calls(self):
        whole = group(1, to(0, 0, [1, 2]))
        removed = group(10, gone(5, 0))
        view = shown(1, held_row(0, 0, 1, [1, 2]))
        self.assertEqual(answers(all_calls())[32:], [
            1, 0, 1, -5, 1, -7, 3 + len(whole), 0, 1, len(whole), *whole, 1, -4, 1, 0, 3, 0, 0, 0, 1, 0, 1, 0,
            2 + len(view), 0, len(view), *view, 1, -7, 2, 0, 2, 1, -3, 2, 0, 9, 1, -3, 2, 0, 9, 1, 1, 2, 0, 9, 1, 1,
            3 + len(removed), 0, 10, len(removed), *removed, 1, 0, 3, 1, 5, 0, 5, 0, 10, 2, 129, 0, 2, 0, 10, 1, 0,
            1, 0, 2, 0, 1, 5, 0, 1, 1, 64, 0])

    def test_the_list_is_as_it_was(self):
        calls = all_calls()
        answers(calls)
        self.assertEqual(calls, all_calls())

    def test_the_list_is_not_changed_for_a_while_either(self):
        class Watched(list):
            def refuse(self, *given):
                raise AssertionError("the list was changed")
            append = extend = insert = pop = remove = clear = sort = reverse = refuse
            __setitem__ = __delitem__ = __iadd__ = __imul__ = refuse
        self.assertEqual(answers(Watched(all_calls())), answers(all_calls()))

    def test_a_second_time_is_as_the_first(self):
        first = answers(all_calls())
        self.assertEqual(answers(all_calls()), first)
        answers(begin(5))
        self.assertEqual(answers(all_calls()), first)

    def test_what_was_given_back_is_the_callers(self):
        first = answers(all_calls())
        copy = list(first)
        first.clear()
        self.assertEqual(answers(all_calls()), copy)

    def test_the_answer_is_a_list_of_whole_numbers(self):
        told = answers(all_calls())
        self.assertIs(type(told), list)
        self.assertEqual({type(number) for number in told}, {int})

    def test_nothing_is_printed(self):
        out, err = io.StringIO(), io.StringIO()
        with contextlib.redirect_stdout(out), contextlib.redirect_stderr(err):
            answers(all_calls())
        self.assertEqual((out.getvalue(), err.getvalue()), ("", ""))

    def test_transactions_in_all_slots_are_apart(self):
        calls = [begin(slot, slot % 2) for slot in range(16)]
        calls += [insert(slot, 9, [slot, slot]) for slot in range(16)]
        calls += [change(slot, 9, slot, [100 + slot]) for slot in range(0, 16, 3)]
        calls += [scan(slot, 9, 0, 65536) for slot in range(16)]
        told = ask(*calls)
        self.assertEqual(told[16:32], [[row] for row in range(16)])
        self.assertEqual(told[-16:], [
            [1, slot, 1, 100 + slot] if slot % 3 == 0 else [1, slot, 2, slot, slot] for slot in range(16)])


class Long(unittest.TestCase):
    def test_a_list_as_long_as_may_be(self):
        calls = [begin(0, 1)] + [insert(0, 0, [k] * 16384) for k in range(3)] + [insert(0, 0, [3] * 7300)]
        calls += [scan(0, 0, 0, 65536)] * 170
        handed = sum(calls, [])
        self.assertLessEqual(len(handed), 58000)
        told = answers(handed)
        rows = sum(([k, 16384] + [k] * 16384 for k in range(3)), []) + [3, 7300] + [3] * 7300
        one = [1 + len(rows), 4] + rows
        self.assertEqual(told[:3 + 8], [2, 0, 0, 1, 0, 1, 1, 1, 2, 1, 3])
        self.assertEqual(told[11:], one * 170)

    def test_300_calls(self):
        calls = [begin(0, 1)] + [insert(0, 0, [k % 256] * 150) for k in range(298)] + [scan(0, 0, 0, 65536)]
        told = ask(*calls)
        self.assertEqual(told[1:299], [[k] for k in range(298)])
        self.assertEqual(told[-1], [298] + sum(([k, 150] + [k % 256] * 150 for k in range(298)), []))

    def test_a_group_and_a_picture_as_long_as_may_be(self):
        changes = [to(63, row, []) for row in range(7123)]
        whole = group(1, *changes)
        self.assertEqual(len(whole), 56996)
        self.assertEqual(ask(replay(whole), told()), [[0, 1], [0, 1, 7123, 7123 * 64, 0]])
        self.assertEqual(ask(replay(whole + [0] * 4), told()), [[-3], [0, 0, 0, 0, 0]])
        rows = [held_row(63, row, 1, []) for row in range(3799)]
        view = shown(1, *rows)
        self.assertEqual(len(view), 56997)
        calls = [restore(view)] + [picture()] * 150 + [picture(len(view) - 1)] * 100
        self.assertEqual(ask(*calls), [[0, 1]] + [[0, len(view), *view]] * 150 + [[-7]] * 100)

    def test_many_rows_and_many_calls(self):
        rows = [held_row(0, row, 1, []) for row in range(3700)]
        calls = [restore(shown(1, *rows)), begin(0, 1)] + [insert(0, 0, []) for _ in range(148)]
        calls += [scan(0, 0, 3690, 9) for _ in range(50)] + [ready(0, 0) for _ in range(50)] + [sweep()] * 49 + [told()]
        told_of = ask(*calls)
        self.assertEqual(told_of[2:150], [[3700 + k] for k in range(148)])
        self.assertEqual(told_of[200:250], [[-7]] * 50)
        self.assertEqual(told_of[-1], [0, 1, 3700, 64 * 3848, 1])

    def test_140_changes_of_one_row(self):
        calls = [begin(0), insert(0, 0, [0])]
        calls += [change(0, 0, 0, [k]) for k in range(140)] + [ready(0), told(), settle(0), told()]
        self.assertEqual(ask(*calls)[-4:], [[0, 1, 21, *group(1, to(0, 0, [139]))], [0, 0, 0, 141 * 65, 1], [0],
                                            [0, 1, 1, 65, 0]])


if __name__ == "__main__":
    unittest.main()
