"""The interface: nothing handed in is changed, nothing is kept, nothing is printed, read or imported."""
import contextlib
import inspect
import io
import sys
import unittest
from pathlib import Path
from unittest import mock

from ruledroots import rows
from ruledroots.rows import double, floor, order, ratio, sign, terms, text
from tests.helper import GREATEST, ROOT, Row, text_answer

README = Path(__file__).resolve().parent.parent / "README.md"


def nothing():
    """The square root of 3 and the root of 8, less 1 and the root of 2."""
    row = Row()
    outer = row.root(row.plus(row.whole(3), row.root_of(8)))
    row.minus(outer, row.plus(row.whole(1), row.root_of(2)))
    return row.p


def rows_of_each_kind():
    """One row for each way to answer."""
    nested = Row()
    nested.root(nested.plus(nested.whole(3), nested.root_of(8)))
    return {
        "none": [],
        "many": [0, 0, 0, 1] * 33,
        "wrong": [0, 0, 0, 1, 9, 0, 0, 0],
        "over zero": [0, 0, 0, 0, 4, 0, 0, 0],
        "root below": [0, 0, 0, -1, 5, 0, 0, 0],
        "zero": nothing(),
        "above": nested.p,
        "below": [0, 0, 0, -GREATEST],
    }


# Each call with what is handed over ahead of the row, refused at the end and not.
CALLS = {
    sign: ([],),
    order: ([0, 0], [1, 0], [0, 1], [0, 33], [33, 0]),
    floor: ([],),
    double: ([0], [1], [2], [3], [4]),
    text: ([0], [5], [100], [101]),
    terms: ([0], [1], [5], [16], [17]),
    ratio: ([],),
}


def answers_of(p):
    """What each call answers."""
    return [call(*first, p) for call, firsts in CALLS.items() for first in firsts]


class Calls(unittest.TestCase):
    def test_arguments(self):
        names = {
            sign: ["p"], order: ["i", "j", "p"], floor: ["p"], double: ["mode", "p"], text: ["places", "p"],
            terms: ["k", "p"], ratio: ["p"],
        }
        self.assertEqual(list(names), list(CALLS))
        p = nothing()
        for call, expected in names.items():
            self.assertEqual(list(inspect.signature(call).parameters), expected)
            self.assertIs(getattr(rows, call.__name__), call)
            for first in CALLS[call]:
                self.assertEqual(call(**dict(zip(expected, [*first, p]))), call(*first, p))

    def test_answers(self):
        refusals = {
            "none": [-7], "many": [-7], "wrong": [-1, 1, 1], "over zero": [-2, 1, 1], "root below": [-3, 1, 1],
        }
        answers = {
            "zero": ([1], [0, 1, 0], [0, 1, 0], text_answer("0.0"), [1, 1, 0], [1, 2, 0, 1]),
            "above": ([2], [0, 1, 2], [0, 1, 0x4003504F333F9DE6], text_answer("2.4"), [2, 2, 2, 2], [0]),
            "below": ([0], [0, 1, -GREATEST], [0, 1, 0xC1DFFFFFFFC00000], text_answer("-2147483647.0"),
                      [1, 1, -GREATEST], [1, 2, -GREATEST, 1]),
        }
        for name, p in rows_of_each_kind().items():
            told = (sign(p), floor(p), double(0, p), text(1, p), terms(2, p), ratio(p))
            self.assertEqual(told, answers.get(name) or (refusals[name],) * len(told), name)

    def test_answers_are_lists_of_whole_numbers(self):
        for p in rows_of_each_kind().values():
            for answer in answers_of(p):
                self.assertIs(type(answer), list)
                for number in answer:
                    self.assertIs(type(number), int)

    def test_list_is_the_same_afterwards(self):
        for p in rows_of_each_kind().values():
            before = list(p)
            for call, firsts in CALLS.items():
                for first in firsts:
                    call(*first, p)
                    self.assertEqual(p, before)

    def test_list_is_not_changed_for_a_while_either(self):
        class Watched(list):
            def refuse(self, *ignored):
                raise AssertionError("changed")
            __setitem__ = __delitem__ = __iadd__ = __imul__ = refuse
            append = extend = insert = pop = remove = clear = sort = reverse = refuse

        for p in rows_of_each_kind().values():
            answers_of(Watched(p))

    def test_second_call_answers_as_the_first(self):
        given = rows_of_each_kind()
        first = {name: answers_of(p) for name, p in given.items()}
        for name in reversed(list(given)):
            self.assertEqual(answers_of(given[name]), first[name])
            self.assertEqual(answers_of(list(given[name])), first[name])

    def test_answers_may_be_changed(self):
        for p in rows_of_each_kind().values():
            kept = [list(answer) for answer in answers_of(p)]
            for answer in answers_of(p):
                answer.append(99)
                answer[0] = 98
            self.assertEqual(answers_of(p), kept)

    def test_examples_of_the_readme(self):
        text = README.read_text(encoding="utf-8").split("```python\n")[1].split("```")[0]
        names = {}
        shown = []
        for line in text.splitlines():
            call, _, told = line.partition("  # ")
            if told:
                shown.append((eval(call, names), told.split(":")[0]))
            else:
                exec(line, names)
        self.assertGreaterEqual(len(shown), len(CALLS))
        for answer, told in shown:
            self.assertEqual(str(answer), told)

    def test_a_refused_row_leaves_nothing_behind(self):
        row = Row()
        for _ in range(3):
            row.root_of(2)
        row.step(ROOT, 0)
        self.assertEqual(sign(row.p), [-1, 1, 6])
        self.assertEqual(sign(row.p[:-4]), [2])
        self.assertEqual(sign(nothing()), [1])

    def test_nothing_is_printed_read_or_imported(self):
        def refuse(*ignored, **also):
            raise AssertionError("imported or read")

        modules = set(sys.modules)
        out = io.StringIO()
        given = list(rows_of_each_kind().values())
        with contextlib.redirect_stdout(out), contextlib.redirect_stderr(out), \
                mock.patch("builtins.__import__", refuse), mock.patch("builtins.open", refuse), \
                mock.patch("sys.stdin", None):
            for p in given:
                answers_of(p)
        self.assertEqual(out.getvalue(), "")
        self.assertEqual(set(sys.modules), modules)


if __name__ == "__main__":
    unittest.main()
