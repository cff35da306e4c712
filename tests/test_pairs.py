"""Pairs: all pairs that may be sewn, the lesser piece first, in order."""

import itertools
import random
import unittest

from model import (ALL_APART, NINE, SMALL_TOPS, CallCase, bytes_of, fits, model_answer, model_pairs, right_tables,
                   start_table, two_by_two)
from patchtable.hall import may, pairs, sew

LARGEST = 4294967295
UPRIGHT, LEVEL, FALLING, RISING = range(4)


class NoPair(CallCase):
    def test_one_piece(self):
        self.check_pairs("a\n", [0])
        self.check_pairs("abcd\n", [0, 0, 0, 0])
        self.check_pairs("a b\nc d\n", [0, 0, 0, 0])
        self.check_pairs("a a a a a a\n" * 6, [0])

    def test_two_pieces_that_may_not_be_sewn(self):
        self.check_pairs("aaab\n", [0, 1])
        self.check_pairs("abcd\n", [0, 0, 0, 3])
        self.check_pairs("a a\na b\n", [0, 1])
        self.check_pairs("a b\nc d\n", [0, 0, 0, 3])
        self.check_pairs("a a a\na b a\na a a\n", [0, 1])

    def test_several_pieces_of_which_no_two_may_be_sewn(self):
        self.check_pairs(NINE, [0, 0, 2, 3, 4, 2, 3, 7, 7])
        self.check_pairs(NINE, [0, 1, 1, 0, 4, 5, 6, 6, 5])
        self.check_pairs("a a b\nc d b\nc e e\n", start_table(5))


class SomePairs(CallCase):
    def test_the_diagonals_of_one_square(self):
        self.check_pairs("a/b\n", [0, 1], (0, 1))
        self.check_pairs("a\\b\n", [0, 1], (0, 1))
        self.check_pairs("abcd\n", start_table(4), (0, 1), (0, 3), (1, 2), (2, 3))
        self.check_pairs("abab\n", start_table(4), (0, 1), (0, 3), (1, 2), (2, 3))

    def test_one_square_sewn_further(self):
        self.check_pairs("abcd\n", [0, 0, 2, 3], (2, 3))
        self.check_pairs("abcd\n", [0, 1, 1, 3], (0, 3))
        self.check_pairs("abcd\n", [0, 1, 1, 0], (0, 1))
        self.check_pairs("abcd\n", [0, 0, 2, 2], (0, 2))

    def test_one_direction_each(self):
        self.check_pairs("a b c\n", [0, 1, 2], (0, 1), (1, 2))
        self.check_pairs("a\nb\nc\n", [0, 1, 2], (0, 1), (1, 2))
        self.check_pairs("a\\b a a\nb a\\b a\nb b a\\b\n", [0, 1], (0, 1))
        self.check_pairs("a a a/b\na a/b b\na/b b b\n", [0, 1], (0, 1))

    def test_all_directions_at_once(self):
        words = "a/b c\\d\ne f\n"
        self.check_pairs(words, start_table(6), (0, 1), (1, 3), (1, 4), (2, 3), (3, 5), (4, 5))
        for i, j, direction in ((0, 1, RISING), (1, 3, UPRIGHT), (1, 4, LEVEL), (2, 3, FALLING)):
            self.assertEqual(may(i, j, bytes_of(words), start_table(6))[:3], [0, 1, direction])

    def test_four_squares(self):
        words = "a b\nc d\n"
        self.check_pairs(words, [0, 1, 2, 3], (0, 1), (0, 2), (1, 3), (2, 3))
        self.check_pairs(words, [0, 0, 2, 3], (2, 3))
        self.check_pairs(words, [0, 0, 2, 2], (0, 2))
        self.check_pairs(words, [0, 1, 0, 3], (1, 3))
        self.check_pairs(words, [0, 1, 0, 1], (0, 1))

    def test_nine_squares(self):
        self.check_pairs(NINE, start_table(9), (0, 1), (0, 3), (1, 2), (1, 4), (2, 5), (3, 4), (3, 6), (4, 5), (4, 7),
                         (5, 8), (6, 7), (7, 8))
        self.check_pairs(NINE, [0, 0, 2, 3, 4, 2, 3, 7, 8], (2, 8), (4, 7), (7, 8))
        self.check_pairs(NINE, [0, 0, 0, 3, 4, 5, 3, 4, 8], (3, 4), (5, 8))

    def test_tops_that_are_not_as_wide_as_high(self):
        self.check_pairs("a b c\nd e f\n", [0, 1, 1, 0, 4, 4], (1, 4))
        self.check_pairs("a b c\nd e f\n", [0, 0, 2, 0, 4, 2])
        self.check_pairs("a b\nc d\ne f\n", [0, 0, 2, 2, 4, 5], (0, 2), (4, 5))
        self.check_pairs("a b c d e f\n", [0, 0, 0, 3, 4, 4], (0, 3), (3, 4))
        self.check_pairs("a\nb\nc\nd\ne\nf\n", [0, 0, 0, 3, 4, 4], (0, 3), (3, 4))

    def test_a_gap_and_a_part_of_an_edge_alone(self):
        self.check_pairs("a b\na c\na b\n", [0, 1, 2, 3], (1, 2), (2, 3))
        self.check_pairs("a b\na c\na b\n", [0, 1, 1, 3], (1, 3))
        self.check_pairs("a b\na c\na b\n", [0, 1, 1, 1], (0, 1))
        self.check_pairs("a a b b\na c d b\na a b b\n", [0, 1, 2, 3], (2, 3))


class LesserFirst(CallCase):
    def check_two(self, words, table, before, behind, direction, at):
        """The one lies before the line, the other behind it; the lesser is told first."""
        pieces = model_answer(words, table)[1]
        wide, high = len(words.split("\n")[0].split(" ")), words.count("\n")
        self.assertTrue(fits(wide, high, pieces[before], pieces[behind], direction, at))
        self.check_sewn(words, table, before, behind, direction, at)
        told = two_by_two(pairs(bytes_of(words), list(table)))
        self.assertIn((min(before, behind), max(before, behind)), told)
        self.assertNotIn((max(before, behind), min(before, behind)), told)

    def test_the_lesser_before_the_line(self):
        self.check_two("a b\n", [0, 1], 0, 1, UPRIGHT, 1)
        self.check_two("a\nb\n", [0, 1], 0, 1, LEVEL, 1)
        self.check_two("a x x\na a b\\a\n", [0, 1, 2], 0, 2, FALLING, 1)
        self.check_two("a/b\n", [0, 1], 0, 1, RISING, 1)

    def test_the_lesser_behind_the_line(self):
        self.check_two("x x/a\nb a\n", [0, 1, 2], 2, 1, UPRIGHT, 1)
        self.check_two("a\\b\n", [0, 1], 1, 0, FALLING, 0)
        self.check_two("x x a\nb/a a a\n", [0, 1, 2], 2, 1, RISING, 2)

    def test_of_all_pairs_of_many_tables(self):
        for words in SMALL_TOPS:
            for table in right_tables(words):
                for lesser, greater in two_by_two(pairs(bytes_of(words), list(table))):
                    self.assertLess(lesser, greater, (words, table))


class Order(CallCase):
    def test_by_the_lesser_then_by_the_greater(self):
        self.check_pairs("a b a b\nc d c d\n", start_table(8), (0, 1), (0, 4), (1, 2), (1, 5), (2, 3), (2, 6), (3, 7),
                         (4, 5), (5, 6), (6, 7))

    def test_numbers_of_two_and_three_digits_come_behind_those_of_one(self):
        self.check_pairs("a b a b a b\nc d c d c d\n", start_table(12), (0, 1), (0, 6), (1, 2), (1, 7), (2, 3), (2, 8),
                         (3, 4), (3, 9), (4, 5), (4, 10), (5, 11), (6, 7), (7, 8), (8, 9), (9, 10), (10, 11))
        told = two_by_two(pairs(bytes_of(ALL_APART), start_table(144)))
        self.assertEqual(told, sorted(told))

    def test_a_lesser_with_several_greater_ones(self):
        self.check_pairs("a b\nc d\n", start_table(4), (0, 1), (0, 2), (1, 3), (2, 3))
        self.check_pairs("abcd efgh\n", start_table(8), (0, 1), (0, 3), (1, 2), (1, 7), (2, 3), (4, 5), (4, 7), (5, 6),
                         (6, 7))
        self.check_pairs("a b c\nd e f\n", [0, 1, 2, 0, 1, 5], (0, 1), (2, 5))


class AsMay(CallCase):
    """Each pair that is told is one of which may answers 1, and no other is."""

    def check_as_may(self, words, table):
        text = bytes_of(words)
        fitting = [(i, j) for i, j in itertools.combinations(sorted(set(table)), 2)
                   if may(i, j, text, list(table))[1] == 1]
        self.check_pairs(words, table, *fitting)

    def test_every_right_table_of_small_tops(self):
        for words in SMALL_TOPS:
            for table in right_tables(words):
                self.check_as_may(words, table)

    def test_while_a_larger_top_is_sewn(self):
        words = "a/b c\\d efgh\nijkl m n/o\np/q r s\\t\n"
        for seed in range(6):
            pick = random.Random(seed)
            table = start_table(20)
            told = two_by_two(pairs(bytes_of(words), table))
            while told:
                self.check_as_may(words, table)
                i, j = pick.choice(told)
                table = sew(i, j, bytes_of(words), table)[1:]
                told = two_by_two(pairs(bytes_of(words), table))
            self.check_as_may(words, table)


class AgainstTheModel(CallCase):
    def test_every_right_table_of_small_tops(self):
        for words in SMALL_TOPS:
            for table in right_tables(words):
                self.check_pairs(words, table, *model_pairs(words, table))


class Largest(CallCase):
    def test_as_many_patches_as_there_can_be(self):
        """Each quarter is a triangle: it may be sewn to whatever lies beside it."""
        beside = []
        for square in range(36):
            first = 4 * square
            beside += [(first, first + 1), (first, first + 3), (first + 1, first + 2), (first + 2, first + 3)]
            if square % 6 < 5:
                beside.append((first + 1, first + 7))
            if square < 30:
                beside.append((first + 2, first + 24))
        self.assertEqual(len(beside), 204)
        self.check_pairs(ALL_APART, start_table(144), *sorted(beside))

    def test_as_many_patches_sewn_to_squares(self):
        table = [patch - patch % 4 for patch in range(144)]
        beside = [(4 * square, 4 * square + 4) for square in range(36) if square % 6 < 5]
        beside += [(4 * square, 4 * square + 24) for square in range(30)]
        self.check_pairs(ALL_APART, table, *sorted(beside))

    def test_as_many_patches_sewn_to_rows(self):
        table = [patch - patch % 24 for patch in range(144)]
        self.check_pairs(ALL_APART, table, (0, 24), (24, 48), (48, 72), (72, 96), (96, 120))

    def test_few_patches(self):
        self.check_pairs("a a a a a a\n" * 6, [0])
        self.check_pairs("a a a b b b\n" * 6, [0, 1], (0, 1))
        self.check_pairs("a a a b b b\n" * 3 + "c c c d d d\n" * 3, start_table(4), (0, 1), (0, 2), (1, 3), (2, 3))
        self.check_pairs("a a a b b b\n" * 5 + "a a a a b b\n", [0, 1])

    def test_few_patches_about_the_middle(self):
        about = "a a a a b b\n" * 2 + "c c d d b b\n" * 2 + "c c e e e e\n" * 2
        self.check_pairs(about, start_table(5))

    def test_a_falling_and_a_rising_line_through_the_whole_top(self):
        falling = "".join("b " * row + "a\\b" + " a" * (5 - row) + "\n" for row in range(6))
        rising = "".join("a " * (5 - row) + "a/b" + " b" * row + "\n" for row in range(6))
        self.check_pairs(falling, [0, 1], (0, 1))
        self.check_pairs(rising, [0, 1], (0, 1))


class RefusalOrder(CallCase):
    def check_pairs_refused(self, words, table, number):
        self.assertEqual(pairs(bytes_of(words), list(table)), [number], (words, table))

    def test_too_long_and_all_else(self):
        for table in ([0], [], [1], [LARGEST], [0] * 2000):
            self.check_pairs_refused("a\n" * 513, table, -2)
            self.check_pairs_refused("?" * 1025, table, -2)
            self.check_pairs_refused("?" * 2000, table, -2)

    def test_at_fault_and_a_wrong_table(self):
        for table in ([0], [], [1], [LARGEST], [0] * 2000):
            for words in ("", "a", "\n", "a\n\n", "?" * 1024, "a b\nc\n", "a b c d e f g\n", "a\n" * 7):
                self.check_pairs_refused(words, table, -6)

    def test_a_wrong_table(self):
        for table in ([], [0], [0, 1, 2], [1, 1], [1, 0], [0, 2], [0, LARGEST], [LARGEST, LARGEST], [0] * 2000):
            self.check_pairs_refused("a b\n", table, -9)
        self.check_pairs_refused("a b c\n", [0, 1, 0], -9)
        self.check_pairs_refused("a b\nc d\n", [0, 1, 1, 3], -9)


if __name__ == "__main__":
    unittest.main()
