"""The interface: nothing handed in is changed, nothing is kept, nothing is printed, read or imported."""
import contextlib
import inspect
import io
import sys
import unittest
from unittest import mock

from ruledroots import rows
from ruledroots.rows import order, sign
from tests.helper import GREATEST, ROOT, Row


def nothing():
    """The square root of 3 and the root of 8, less 1 and the root of 2."""
    row = Row()
    outer = row.root(row.plus(row.whole(3), row.root_of(8)))
    row.minus(outer, row.plus(row.whole(1), row.root_of(2)))
    return row.p


def rows_of_each_kind():
    """One row for each way to answer."""
    nested = Row()
    nested.root(nested.plus(nested.whole(3), nested.root_of(8)))
    return {
        "none": [],
        "many": [0, 0, 0, 1] * 33,
        "wrong": [0, 0, 0, 1, 9, 0, 0, 0],
        "over zero": [0, 0, 0, 0, 4, 0, 0, 0],
        "root below": [0, 0, 0, -1, 5, 0, 0, 0],
        "zero": nothing(),
        "above": nested.p,
        "below": [0, 0, 0, -GREATEST],
    }


class Calls(unittest.TestCase):
    def test_arguments(self):
        self.assertEqual(list(inspect.signature(sign).parameters), ["p"])
        self.assertEqual(list(inspect.signature(order).parameters), ["i", "j", "p"])
        p = nothing()
        self.assertEqual(rows.sign(p=p), sign(p))
        self.assertEqual(rows.order(i=1, j=2, p=p), order(1, 2, p))

    def test_answers(self):
        answers = {
            "none": [-7], "many": [-7], "wrong": [-1, 1, 1], "over zero": [-2, 1, 1], "root below": [-3, 1, 1],
            "zero": [1], "above": [2], "below": [0],
        }
        for name, p in rows_of_each_kind().items():
            self.assertEqual(sign(p), answers[name], name)

    def test_answers_are_lists_of_whole_numbers(self):
        for p in rows_of_each_kind().values():
            for answer in (sign(p), order(0, 0, p), order(0, 33, p)):
                self.assertIs(type(answer), list)
                for number in answer:
                    self.assertIs(type(number), int)

    def test_list_is_the_same_afterwards(self):
        for p in rows_of_each_kind().values():
            before = list(p)
            sign(p)
            self.assertEqual(p, before)
            order(0, 1, p)
            self.assertEqual(p, before)

    def test_list_is_not_changed_for_a_while_either(self):
        class Watched(list):
            def refuse(self, *ignored):
                raise AssertionError("changed")
            __setitem__ = __delitem__ = __iadd__ = __imul__ = refuse
            append = extend = insert = pop = remove = clear = sort = reverse = refuse

        for p in rows_of_each_kind().values():
            sign(Watched(p))
            order(0, 0, Watched(p))

    def test_second_call_answers_as_the_first(self):
        given = rows_of_each_kind()
        first = {name: (sign(p), order(0, 1, p), order(1, 0, p)) for name, p in given.items()}
        for name in reversed(list(given)):
            p = given[name]
            self.assertEqual((sign(p), order(0, 1, p), order(1, 0, p)), first[name])
            self.assertEqual((sign(list(p)), order(0, 1, list(p)), order(1, 0, list(p))), first[name])

    def test_answers_may_be_changed(self):
        for p in rows_of_each_kind().values():
            first = sign(p)
            kept = list(first)
            first.append(99)
            first[0] = 98
            self.assertEqual(sign(p), kept)

    def test_a_refused_row_leaves_nothing_behind(self):
        row = Row()
        for _ in range(3):
            row.root_of(2)
        row.step(ROOT, 0)
        self.assertEqual(sign(row.p), [-1, 1, 6])
        self.assertEqual(sign(row.p[:-4]), [2])
        self.assertEqual(sign(nothing()), [1])

    def test_nothing_is_printed_read_or_imported(self):
        def refuse(*ignored, **also):
            raise AssertionError("imported or read")

        modules = set(sys.modules)
        out = io.StringIO()
        given = list(rows_of_each_kind().values())
        with contextlib.redirect_stdout(out), contextlib.redirect_stderr(out), \
                mock.patch("builtins.__import__", refuse), mock.patch("builtins.open", refuse), \
                mock.patch("sys.stdin", None):
            for p in given:
                sign(p)
                order(0, 0, p)
        self.assertEqual(out.getvalue(), "")
        self.assertEqual(set(sys.modules), modules)


if __name__ == "__main__":
    unittest.main()
