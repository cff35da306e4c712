"""Right tables and wrong ones, and which refusal counts where several hold."""

import itertools
import unittest

from model import SMALL_TOPS, CallCase, model_answer, right_tables, set_tables, start_table

LARGEST = 4294967295


class WrongTables(CallCase):
    def test_no_numbers(self):
        self.check_refused("a\n", [], -9)

    def test_too_few_numbers(self):
        self.check_refused("a b\n", [0], -9)
        self.check_refused("a b\nc d\n", [0, 1, 2], -9)
        self.check_refused("a b\nc d\n", [0, 0, 0], -9)

    def test_too_many_numbers(self):
        self.check_refused("a\n", [0, 0], -9)
        self.check_refused("a\n", [0, 1], -9)
        self.check_refused("a b\nc d\n", [0, 1, 2, 3, 4], -9)
        self.check_refused("a b\nc d\n", [0, 0, 0, 0, 0], -9)

    def test_as_many_numbers_as_quarters_or_squares(self):
        self.check_refused("a a\nb b\n", start_table(4), -9)
        self.check_refused("a a\nb b\n", start_table(16), -9)

    def test_the_most_numbers(self):
        self.check_refused("a\n", [0] * 2000, -9)
        self.check_refused("a\n", start_table(2000), -9)
        self.check_refused("a\n", [LARGEST] * 2000, -9)

    def test_a_greater_patch_of_the_piece(self):
        self.check_refused("a b\n", [1, 1], -9)
        self.check_refused("a b\nc d\n", [0, 3, 2, 3], -9)
        self.check_refused("a b\nc d\n", [3, 3, 3, 3], -9)

    def test_patches_that_tell_one_another(self):
        self.check_refused("a b\n", [1, 0], -9)
        self.check_refused("a b c\n", [1, 2, 0], -9)

    def test_another_than_the_least_of_the_piece(self):
        self.check_refused("a b c\n", [0, 0, 1], -9)
        self.check_refused("a b c d\n", [0, 0, 1, 2], -9)
        self.check_refused("a b c d\n", [0, 1, 1, 2], -9)

    def test_a_number_that_is_no_patch(self):
        for number in (2, 3, 4, 8, 255, 256, 2147483648, 4294967294, LARGEST):
            self.check_refused("a b\n", [0, number], -9)
            self.check_refused("a b\n", [number, 1], -9)
            self.check_refused("a b\n", [number, number], -9)
        self.check_refused("a\n", [1], -9)
        self.check_refused("a\n", [LARGEST], -9)

    def test_a_piece_that_does_not_hang_together(self):
        self.check_refused("a b c\n", [0, 1, 0], -9)
        self.check_refused("a b\nc d\n", [0, 1, 2, 0], -9)
        self.check_refused("a b\nc d\n", [0, 1, 1, 3], -9)
        self.check_refused("a b c d\n", [0, 0, 2, 0], -9)

    def test_one_of_several_pieces_does_not_hang_together(self):
        self.check_refused("a b c\nd e f\ng h i\n", [0, 0, 0, 3, 3, 3, 6, 7, 6], -9)
        self.check_refused("a b c\nd e f\ng h i\n", [0, 1, 1, 3, 0, 3, 3, 3, 3], -9)

    def test_the_same_letter_does_not_make_a_piece_hang_together(self):
        self.check_refused("a b a\n", [0, 1, 0], -9)
        self.check_right("a b a\n", [0, 0, 0], 1)

    def test_pieces_cross(self):
        self.check_refused("a b\nc d\n", [0, 1, 1, 0], -9)


class RefusalOrder(CallCase):
    def test_too_long_and_at_fault(self):
        self.check_refused("?" * 1025, [0], -2)
        self.check_refused("?" * 1024, [0], -6)

    def test_too_long_and_a_wrong_table(self):
        self.check_refused("a\n" * 513, [], -2)
        self.check_refused("a\n" * 513, [LARGEST], -2)

    def test_at_fault_and_a_wrong_table(self):
        for words in ("", "a", "a \n", "a a\na\n", "?" * 1024):
            self.check_refused(words, [], -6)
            self.check_refused(words, [LARGEST], -6)
            self.check_refused(words, [1, 0], -6)
            self.check_refused(words, [0] * 2000, -6)

    def test_a_wrong_table_alone(self):
        self.check_refused("a\n", [LARGEST], -9)


class AllTables(CallCase):
    """Every table of small tops, against the second way."""

    def test_one_square_with_every_row_of_numbers(self):
        for pattern in set_tables(4):
            words = "".join("abcd"[mark] for mark in pattern) + "\n"
            for count in range(5):
                for table in itertools.product(range(5), repeat=count):
                    self.check_model(words, table)

    def test_several_squares_with_every_set_of_pieces(self):
        tops = ("a/b c\\d\ne f\n", "a b c\nd e f\n", "a b\nc d\ne f\n", "abcd efcb\n", "abcd\nceaf\n",
                "a b a b a b\n", "a b/a c\na a\\b b\n", "abab b\na b\n", "a\nb\na\nb/a\nc\na\n", "aabb bbaa\n")
        for words in tops:
            count = [n for n in range(1, 12) if model_answer(words, start_table(n))[0] == 0][0]
            for table in set_tables(count):
                self.check_model(words, table)

    def test_whatever_two_pieces_that_lie_beside_one_another_are_joined(self):
        for words in SMALL_TOPS:
            for table in right_tables(words):
                self.check_right(words, table, len(set(table)))

    def test_one_number_off(self):
        words = "a b c\nd e/f g\\h\n"
        right = [0, 0, 2, 3, 3, 5, 2, 5]
        self.check_model(words, right)
        for place in range(len(right)):
            for number in list(range(10)) + [LARGEST]:
                self.check_model(words, right[:place] + [number] + right[place + 1:])


if __name__ == "__main__":
    unittest.main()
