"""The interface: what is handed in and given back, and that nothing is kept, printed or nested deep."""

import contextlib
import inspect
import io
import sys
import unittest

import patchtable
import patchtable.hall
from model import bytes_of, start_table

CALLS = (patchtable.hall.judge, patchtable.hall.left)

# Text, table, what judge answers, what left answers.
CASES = (
    ("a\n", [0], [0], [0, 1]),
    ("a b\nc d\n", [0, 0, 2, 2], [0], [0, 2]),
    ("a/b c\\d\nefgh i\n", start_table(9), [0], [0, 9]),
    ("a b c\nd e f\n", [0, 0, 2, 0, 4, 2], [0], [0, 3]),
    ("a a\na a\n", [0], [0], [0, 1]),
    ("a\n" * 513, [0], [-2], [-2]),
    ("a  b\n", [0, 1], [-6], [-6]),
    ("", [], [-6], [-6]),
    ("a b c\n", [0, 1, 0], [-9], [-9]),
    ("a b\n", [0, 4294967295], [-9], [-9]),
    ("a b\n", [0], [-9], [-9]),
)


def refuse(*words, **more):
    raise AssertionError("what was handed in is changed")


class Guarded(list):
    """A list that can be read, and fails as soon as somebody changes it."""

    append = clear = extend = insert = pop = remove = reverse = sort = refuse
    __setitem__ = __delitem__ = __iadd__ = __imul__ = refuse


class Interface(unittest.TestCase):
    def check_cases(self, cases):
        for words, table, of_judge, of_left in cases:
            self.assertEqual(patchtable.hall.judge(bytes_of(words), list(table)), of_judge)
            self.assertEqual(patchtable.hall.left(bytes_of(words), list(table)), of_left)

    def test_names_and_arguments(self):
        for call in CALLS:
            self.assertEqual(list(inspect.signature(call).parameters), ["text", "table"])
            self.assertEqual(call(table=[0], text=bytes_of("a\n"))[0], 0)

    def test_lists_of_plain_whole_numbers(self):
        for words, table, of_judge, of_left in CASES:
            for call in CALLS:
                answer = call(bytes_of(words), list(table))
                self.assertIs(type(answer), list)
                for number in answer:
                    self.assertIs(type(number), int)

    def test_what_is_handed_in_is_as_it_was(self):
        for words, table, of_judge, of_left in CASES:
            for call in CALLS:
                text, row = bytes_of(words), list(table)
                call(text, row)
                self.assertEqual(text, bytes_of(words))
                self.assertEqual(row, table)

    def test_what_is_handed_in_is_not_changed_for_a_while_either(self):
        for words, table, of_judge, of_left in CASES:
            text, row = Guarded(bytes_of(words)), Guarded(table)
            self.assertEqual(patchtable.hall.judge(text, row), of_judge)
            self.assertEqual(patchtable.hall.left(text, row), of_left)

    def test_the_same_answer_whatever_was_called_before(self):
        self.check_cases(CASES)
        self.check_cases(reversed(CASES))
        for first in CASES:
            for second in CASES:
                self.check_cases((first, second, first))

    def test_what_is_given_back_is_made_anew(self):
        for words, table, of_judge, of_left in CASES:
            patchtable.hall.judge(bytes_of(words), list(table)).append(7)
            patchtable.hall.left(bytes_of(words), list(table)).clear()
            self.check_cases(((words, table, of_judge, of_left),))

    def test_what_was_handed_in_may_be_changed_behind_the_call(self):
        for call in CALLS:
            text, table = bytes_of("a b\n"), [0, 1]
            self.assertEqual(call(text, table)[0], 0)
            text[1] = 0
            self.assertEqual(call(text, table), [-6])
            text[1] = 32
            table[1] = 2
            self.assertEqual(call(text, table), [-9])

    def test_nothing_is_printed(self):
        printed = io.StringIO()
        with contextlib.redirect_stdout(printed), contextlib.redirect_stderr(printed):
            self.check_cases(CASES)
        self.assertEqual(printed.getvalue(), "")

    def test_long_inputs_are_gone_through_by_loops(self):
        cases = (
            ("a a a a a a\n" * 6, [0], [0], [0, 1]),
            ("abcd efgh abcd efgh abcd efgh\nijkl mnop ijkl mnop ijkl mnop\n" * 3, [0] * 144, [0], [0, 1]),
            ("a" * 1024, [0] * 2000, [-6], [-6]),
            ("a\n", start_table(2000), [-9], [-9]),
        )
        limit = sys.getrecursionlimit()
        sys.setrecursionlimit(len(inspect.stack()) + 60)
        try:
            self.check_cases(cases)
        finally:
            sys.setrecursionlimit(limit)


if __name__ == "__main__":
    unittest.main()
