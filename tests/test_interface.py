"""The interface: what is handed in and given back, and that nothing is kept, printed or nested deep."""

import contextlib
import inspect
import io
import sys
import unittest

import patchtable
import patchtable.hall
from model import ALL_APART, NINE, bytes_of, start_table

ON_A_TABLE = (patchtable.hall.judge, patchtable.hall.left, patchtable.hall.pairs, patchtable.hall.can,
              patchtable.hall.next_of)
ON_TWO_PIECES = (patchtable.hall.may, patchtable.hall.sew)

MIXED = "a/b c\\d\nefgh i\n"
MIXED_PAIRS = [0, 0, 1, 1, 3, 1, 4, 2, 3, 3, 8, 4, 5, 4, 7, 5, 6, 5, 8, 6, 7]

# Two pieces, text, table, and what judge, left, pairs, can, next_of, may and sew answer.
CASES = (
    (0, 0, "a\n", [0], [0], [0, 1], [0], [0, 1], [-5], [0, 0], [-5]),
    (2, 0, "a b\nc d\n", [0, 0, 2, 2], [0], [0, 2], [0, 0, 2], [0, 1], [0, 0, 2], [0, 1, 1, 65], [0, 0, 0, 0, 0]),
    (6, 5, MIXED, start_table(9), [0], [0, 9], MIXED_PAIRS, [0, 1], [0, 0, 1], [0, 1, 2, 63],
     [0, 0, 1, 2, 3, 4, 5, 5, 7, 8]),
    (0, 1, MIXED, start_table(9), [0], [0, 9], MIXED_PAIRS, [0, 1], [0, 0, 1], [0, 1, 3, 65],
     [0, 0, 0, 2, 3, 4, 5, 6, 7, 8]),
    (0, 2, "a b c\nd e f\n", [0, 0, 2, 0, 4, 2], [0], [0, 3], [0], [0, 0], [-5], [0, 0], [-5]),
    (4, 2, "a b c\nd e f\n", [0, 0, 2, 0, 4, 2], [0], [0, 3], [0], [0, 0], [-5], [0, 0], [-5]),
    (1, 0, NINE, [0, 1, 2, 3, 4, 2, 3, 7, 7], [0], [0, 6], [0, 0, 1, 0, 3, 1, 4], [0, 1], [0, 0, 3], [0, 1, 0, 65],
     [0, 0, 0, 2, 3, 4, 2, 3, 7, 7]),
    (7, 4, NINE, [0, 0, 2, 3, 4, 2, 3, 7, 7], [0], [0, 5], [0], [0, 0], [-5], [0, 0], [-5]),
    (1, 0, "a a\na a\n", [0], [0], [0, 1], [0], [0, 1], [-5], [-4], [-4]),
    (0, 4294967295, "a b\n", [0, 1], [0], [0, 2], [0, 0, 1], [0, 1], [0, 0, 1], [-4], [-4]),
    (0, 1, "a b\n", [0, 0], [0], [0, 1], [0], [0, 1], [-5], [-4], [-4]),
    (0, 1, "a b\n", [0, 1], [0], [0, 2], [0, 0, 1], [0, 1], [0, 0, 1], [0, 1, 0, 65], [0, 0, 0]),
    (0, 0, "a\n" * 513, [0]) + 7 * ([-2],),
    (0, 1, "a  b\n", [0, 1]) + 7 * ([-6],),
    (0, 0, "", []) + 7 * ([-6],),
    (0, 1, "a b c\n", [0, 1, 0]) + 7 * ([-9],),
    (0, 1, "a b\n", [0, 4294967295]) + 7 * ([-9],),
    (0, 0, "a b\n", [0]) + 7 * ([-9],),
)

LONG_CASES = (
    (0, 0, "a a a a a a\n" * 6, [0], [0], [0, 1], [0], [0, 1], [-5], [0, 0], [-5]),
    (0, 0, ALL_APART, [0] * 144, [0], [0, 1], [0], [0, 1], [-5], [0, 0], [-5]),
    (0, 72, ALL_APART, [0] * 72 + [72] * 72, [0], [0, 2], [0, 0, 72], [0, 1], [0, 0, 72], [0, 1, 1, 67], [0] * 145),
    (0, 1, "a" * 1024, [0] * 2000) + 7 * ([-6],),
    (0, 1, "a\n", start_table(2000)) + 7 * ([-9],),
)


def refuse(*words, **more):
    raise AssertionError("what was handed in is changed")


class Guarded(list):
    """A list that can be read, and fails as soon as somebody changes it."""

    append = clear = extend = insert = pop = remove = reverse = sort = refuse
    __setitem__ = __delitem__ = __iadd__ = __imul__ = refuse


def ask_all(i, j, text, table):
    """What all calls answer to the very same lists."""
    return [call(text, table) for call in ON_A_TABLE] + [call(i, j, text, table) for call in ON_TWO_PIECES]


class Interface(unittest.TestCase):
    def check_cases(self, cases):
        for i, j, words, table, *answers in cases:
            self.assertEqual(ask_all(i, j, bytes_of(words), list(table)), answers, (i, j, words, table))

    def test_names_and_arguments(self):
        for call in ON_A_TABLE:
            self.assertEqual(list(inspect.signature(call).parameters), ["text", "table"])
            self.assertEqual(call(table=[0, 1], text=bytes_of("a b\n"))[0], 0)
        for call in ON_TWO_PIECES:
            self.assertEqual(list(inspect.signature(call).parameters), ["i", "j", "text", "table"])
            self.assertEqual(call(table=[0, 1], text=bytes_of("a b\n"), j=1, i=0)[0], 0)

    def test_lists_of_plain_whole_numbers(self):
        for i, j, words, table, *answers in CASES:
            for answer in ask_all(i, j, bytes_of(words), list(table)):
                self.assertIs(type(answer), list)
                for number in answer:
                    self.assertIs(type(number), int)

    def test_what_is_handed_in_is_as_it_was(self):
        for i, j, words, table, *answers in CASES:
            text, row = bytes_of(words), list(table)
            ask_all(i, j, text, row)
            self.assertEqual(text, bytes_of(words))
            self.assertEqual(row, table)

    def test_what_is_handed_in_is_not_changed_for_a_while_either(self):
        for i, j, words, table, *answers in CASES:
            self.assertEqual(ask_all(i, j, Guarded(bytes_of(words)), Guarded(table)), answers)

    def test_the_same_answer_whatever_was_called_before(self):
        self.check_cases(CASES)
        self.check_cases(reversed(CASES))
        for first in CASES:
            for second in CASES:
                self.check_cases((first, second, first))

    def test_what_is_given_back_is_made_anew(self):
        for case in CASES:
            i, j, words, table, *answers = case
            for change in (lambda answer: answer.append(7), lambda answer: answer.clear()):
                text, row = bytes_of(words), list(table)
                for answer in ask_all(i, j, text, row):
                    self.assertIsNot(answer, row)
                    self.assertIsNot(answer, text)
                    change(answer)
                self.assertEqual((text, row), (bytes_of(words), table))
                self.check_cases((case,))

    def test_what_was_handed_in_may_be_changed_behind_the_call(self):
        text, table = bytes_of("a b\n"), [0, 1]
        right = [[0], [0, 2], [0, 0, 1], [0, 1], [0, 0, 1], [0, 1, 0, 65], [0, 0, 0]]
        self.assertEqual(ask_all(0, 1, text, table), right)
        text[1] = 0
        self.assertEqual(ask_all(0, 1, text, table), [[-6]] * 7)
        text[1] = 32
        table[1] = 2
        self.assertEqual(ask_all(0, 1, text, table), [[-9]] * 7)
        table[1] = 1
        self.assertEqual(ask_all(0, 1, text, table), right)

    def test_nothing_is_printed(self):
        printed = io.StringIO()
        with contextlib.redirect_stdout(printed), contextlib.redirect_stderr(printed):
            self.check_cases(CASES)
        self.assertEqual(printed.getvalue(), "")

    def test_long_inputs_are_gone_through_by_loops(self):
        many = (0, 1, bytes_of(ALL_APART), start_table(144))
        answers = ask_all(*many)
        limit = sys.getrecursionlimit()
        sys.setrecursionlimit(len(inspect.stack()) + 60)
        try:
            self.check_cases(LONG_CASES)
            self.assertEqual(ask_all(*many), answers)
        finally:
            sys.setrecursionlimit(limit)


if __name__ == "__main__":
    unittest.main()
