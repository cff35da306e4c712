"""Next: the first pair that may be sewn and leaves it so that it can be finished."""

import random
import unittest

from model import (ALL_APART, NINE, SMALL_TOPS, CallCase, about_the_middle, bytes_of, cut_about, cut_at_random,
                   model_next, model_pairs, right_tables, start_table, table_of, two_by_two)
from patchtable.hall import can, left, next_of, pairs, sew

LARGEST = 4294967295


class NextCase(CallCase):
    def follow(self, words, table):
        """Sew what is told next until one piece is left; give the pairs on the way."""
        text = bytes_of(words)
        told = []
        while len(set(table)) > 1:
            answer = next_of(text, list(table))
            self.assertEqual((answer[0], len(answer)), (0, 3), (words, table))
            told.append(tuple(answer[1:]))
            sewn = sew(answer[1], answer[2], text, list(table))
            self.assertEqual(sewn[0], 0, (words, table))
            self.assertEqual(left(text, sewn[1:]), [0, len(set(table)) - 1], (words, table))
            self.check_can(words, sewn[1:], 1)
            table = sewn[1:]
        self.check_no_next(words, table)
        self.assertEqual(set(table), {0})
        return told

    def check_by_the_calls(self, words, table):
        """Next is the first of all pairs that may be sewn and leave it so that can answers 1."""
        text = bytes_of(words)
        good = [(i, j) for i, j in two_by_two(pairs(text, list(table)))
                if can(text, sew(i, j, text, list(table))[1:]) == [0, 1]]
        if good:
            self.check_next(words, table, *good[0])
        else:
            self.check_no_next(words, table)


class OneSquare(NextCase):
    def test_its_diagonals(self):
        self.check_next("a/b\n", [0, 1], 0, 1)
        self.check_next("a\\b\n", [0, 1], 0, 1)
        self.check_next("abcd\n", start_table(4), 0, 1)
        self.check_next("abab\n", start_table(4), 0, 1)

    def test_some_pieces_are_sewn(self):
        self.check_next("abcd\n", [0, 0, 2, 3], 2, 3)
        self.check_next("abcd\n", [0, 1, 1, 3], 0, 3)
        self.check_next("abcd\n", [0, 1, 1, 0], 0, 1)
        self.check_next("abcd\n", [0, 0, 2, 2], 0, 2)

    def test_to_the_end(self):
        self.assertEqual(self.follow("abcd\n", start_table(4)), [(0, 1), (2, 3), (0, 2)])
        self.assertEqual(self.follow("abcd\n", [0, 1, 1, 3]), [(0, 3), (0, 1)])


class SeveralSquares(NextCase):
    def test_the_first_pair_from_the_beginning(self):
        self.check_next("a b\n", [0, 1], 0, 1)
        self.check_next("a\nb\n", [0, 1], 0, 1)
        self.check_next("a b\nc d\n", start_table(4), 0, 1)
        self.check_next(NINE, start_table(9), 0, 1)
        self.check_next("a/b c\\d\nefgh i\n", start_table(9), 0, 1)

    def test_some_pieces_are_sewn(self):
        self.check_next("a b\nc d\n", [0, 0, 2, 3], 2, 3)
        self.check_next("a b\nc d\n", [0, 1, 0, 3], 1, 3)
        self.check_next("a b\nc d\n", [0, 0, 2, 2], 0, 2)
        self.check_next(NINE, [0, 0, 2, 3, 4, 2, 3, 7, 8], 2, 8)
        self.check_next(NINE, [0, 0, 0, 3, 3, 5, 6, 6, 5], 3, 6)

    def test_tops_that_are_not_as_wide_as_high(self):
        self.check_next("a b c d e f\n", [0, 0, 0, 3, 4, 4], 0, 3)
        self.check_next("a\nb\nc\nd\ne\nf\n", [0, 0, 0, 3, 4, 4], 0, 3)
        self.check_next("a b c\nd e f\n", [0, 1, 1, 0, 4, 4], 1, 4)
        self.check_next("a b\nc d\ne f\n", [0, 0, 2, 2, 4, 5], 0, 2)
        self.check_next("a b\nc d\ne f\n", [0, 0, 0, 0, 4, 5], 4, 5)

    def test_the_lesser_piece_first_whichever_lies_before_the_line(self):
        self.check_next("a\\b\n", [0, 1], 0, 1)
        self.check_next("a\\b a\nb a\\b\n", [0, 1], 0, 1)
        self.check_next("a b\nc/d e\n", [0, 0, 2, 3, 3], 2, 3)

    def test_to_the_end(self):
        self.assertEqual(self.follow("a b\nc d\n", start_table(4)), [(0, 1), (2, 3), (0, 2)])
        self.assertEqual(self.follow("a b c\n", start_table(3)), [(0, 1), (0, 2)])
        self.assertEqual(self.follow("a b b\na c d\n", start_table(4)), [(2, 3), (1, 2), (0, 1)])


class NoNext(NextCase):
    def test_one_piece(self):
        self.check_no_next("a\n", [0])
        self.check_no_next("abcd\n", [0, 0, 0, 0])
        self.check_no_next("a b\nc d\n", [0, 0, 0, 0])
        self.check_no_next(NINE, [0] * 9)
        self.check_no_next("aaab\n", [0, 0])

    def test_a_top_that_can_not_be_finished_from_the_beginning(self):
        self.check_no_next("aaab\n", [0, 1])
        self.check_no_next("a a\na b\n", [0, 1])
        self.check_no_next("a a a\na b a\na a a\n", [0, 1])
        self.check_no_next("a a b\nc d b\nc e e\n", start_table(5))

    def test_some_pairs_may_be_sewn_but_none_comes_to_one_piece(self):
        self.check_pairs("a a b\na c d\n", start_table(4), (0, 1), (1, 3), (2, 3))
        self.check_no_next("a a b\na c d\n", start_table(4))
        self.check_pairs("a b\nc d\\e\n", [0, 1, 0, 3, 0], (1, 3))
        self.check_no_next("a b\nc d\\e\n", [0, 1, 0, 3, 0])

    def test_four_pairs_about_the_middle_one(self):
        self.check_no_next(NINE, [0, 0, 2, 3, 4, 2, 3, 7, 7])
        self.check_no_next(NINE, [0, 1, 1, 0, 4, 5, 6, 6, 5])


class FirstOrLater(NextCase):
    def check_place(self, words, table, place, i, j):
        """Next is at that place of all pairs that may be sewn; each one ahead of it spoils it."""
        told = two_by_two(pairs(bytes_of(words), list(table)))
        self.assertEqual(told[place], (i, j))
        for one, other in told[:place]:
            self.check_can(words, sew(one, other, bytes_of(words), list(table))[1:], 0)
        self.check_next(words, table, i, j)

    def test_the_first(self):
        self.check_place(NINE, start_table(9), 0, 0, 1)
        self.check_place(NINE, [0, 0, 2, 3, 4, 2, 3, 7, 8], 0, 2, 8)
        self.check_place("a\\b c\nd e\\f\n", start_table(6), 0, 0, 1)

    def test_the_first_spoils_it(self):
        self.check_place(NINE, [0, 1, 2, 3, 4, 2, 3, 7, 7], 1, 0, 3)
        self.check_place(NINE, [0, 1, 2, 0, 4, 5, 6, 6, 5], 1, 1, 4)
        self.check_place("a\\b c\nd e\\f\n", [0, 0, 2, 3, 2, 5], 1, 0, 3)
        self.check_place("a b/c\nd/e f\n", [0, 1, 1, 0, 4, 5], 1, 0, 4)

    def test_the_first_spoils_it_from_the_beginning(self):
        self.check_place("aacb a\nb\\a c\n", start_table(6), 1, 1, 2)

    def test_the_first_two_spoil_it(self):
        words = "a b c d\ne f g h\ni j k l\nm n o p\n"
        self.check_place(words, [0, 1, 1, 3, 0, 5, 6, 7, 8, 9, 10, 7, 12, 12, 10, 7], 2, 3, 7)


class AgainstTheModel(NextCase):
    def test_all_right_tables_of_small_tops(self):
        for words in SMALL_TOPS:
            for table in right_tables(words):
                told = model_next(words, table)
                if told is None:
                    self.check_no_next(words, table)
                else:
                    self.check_next(words, table, *told)

    def test_by_the_calls_themselves(self):
        for words in SMALL_TOPS:
            for table in right_tables(words):
                self.check_by_the_calls(words, table)

    def test_all_answers_are_met(self):
        met = set()
        for words in SMALL_TOPS:
            for table in right_tables(words):
                told = model_next(words, table)
                met.add(told if told is None else model_pairs(words, table).index(told))
        self.assertLessEqual({None, 0, 1}, met)


class Followed(NextCase):
    def test_small_tops_from_the_beginning(self):
        for words in SMALL_TOPS:
            table = list(right_tables(words)[0])
            if can(bytes_of(words), table) == [0, 1]:
                self.assertEqual(len(self.follow(words, table)), len(table) - 1)
            else:
                self.check_no_next(words, table)

    def test_larger_tops_from_the_beginning(self):
        for words, count in (("a/b c\\d efgh\nijkl m n/o\np/q r s\\t\n", 20), ("abcd efgh abcd\nijkl mnop ijkl\n", 24),
                             ("a b c d\ne f g h\ni j k l\nm n o p\n", 16)):
            self.assertEqual(len(self.follow(words, start_table(count))), count - 1)

    def test_whatever_was_sewn_while_it_can_be_finished(self):
        words, text = NINE, bytes_of(NINE)
        for seed in range(30):
            pick = random.Random(seed)
            table = start_table(9)
            for _ in range(pick.randrange(8)):
                told = two_by_two(pairs(text, table))
                table = sew(*pick.choice(told), text, table)[1:] if told else table
            if can(text, table) == [0, 1]:
                self.follow(words, table)
            else:
                self.check_no_next(words, table)


class Largest(NextCase):
    def test_as_many_patches_as_there_can_be_to_the_end(self):
        told = self.follow(ALL_APART, start_table(144))
        self.assertEqual(len(told), 143)
        self.assertEqual(told[0], (0, 1))

    def test_as_many_patches_sewn_to_squares_to_the_end(self):
        told = self.follow(ALL_APART, [patch - patch % 4 for patch in range(144)])
        self.assertEqual(told[:2] + told[-1:], [(0, 4), (0, 8), (0, 120)])

    def test_one_piece(self):
        self.check_no_next(ALL_APART, [0] * 144)
        self.check_no_next("a a a a a a\n" * 6, [0])

    def test_three_quarters_of_one_square_alone_spoil_it(self):
        for square in range(0, 36, 7):
            table = start_table(144)
            table[4 * square + 1] = table[4 * square + 2] = 4 * square
            self.check_no_next(ALL_APART, table)

    def test_few_patches(self):
        self.check_next("a a a b b b\n" * 6, [0, 1], 0, 1)
        self.check_no_next("a a a b b b\n" * 5 + "a a a a b b\n", [0, 1])
        self.check_next("a a a b b b\n" * 3 + "c c d d d d\n" * 3, start_table(4), 0, 1)
        self.check_no_next("a a a a b b\n" * 2 + "c c d d b b\n" * 2 + "c c e e e e\n" * 2, start_table(5))
        self.check_next("a a a a b b\n" * 2 + "c c d d b b\n" * 2 + "c c e e b b\n" * 2, start_table(5), 3, 4)

    def test_a_falling_and_a_rising_line_through_the_whole_top(self):
        self.check_next("".join("b " * row + "a\\b" + " a" * (5 - row) + "\n" for row in range(6)), [0, 1], 0, 1)
        self.check_next("".join("a " * (5 - row) + "a/b" + " b" * row + "\n" for row in range(6)), [0, 1], 0, 1)

    def test_parted_by_whatever_lines(self):
        for seed in range(12):
            table = table_of(cut_at_random(frozenset(range(144)), random.Random(seed)))
            self.check_by_the_calls(ALL_APART, table)
            self.assertEqual(len(self.follow(ALL_APART, table)), len(set(table)) - 1)

    def test_parted_by_whatever_lines_with_four_about_a_middle_one(self):
        for seed in range(12):
            pick = random.Random(seed)
            x, y = pick.randrange(4), pick.randrange(4)
            arms = about_the_middle(x, y)
            rest = [small for part in cut_about(x, y) for small in cut_at_random(part, pick)]
            self.check_no_next(ALL_APART, table_of(rest + arms))
            # The first pair is taken apart: it may be sewn again, but that is not what is told next.
            one = frozenset(quarter for quarter in arms[0] if quarter // 4 % 6 == x)
            other = arms[0] - one
            table = table_of(rest + arms[1:] + [one, other])
            self.assertIn((min(one), min(other)), two_by_two(pairs(bytes_of(ALL_APART), table)))
            self.check_can(ALL_APART, table, 1)
            self.check_by_the_calls(ALL_APART, table)
            self.assertNotEqual(next_of(bytes_of(ALL_APART), table)[1:], [min(one), min(other)])


class RefusalOrder(NextCase):
    def check_next_refused(self, words, table, number):
        self.assertEqual(next_of(bytes_of(words), list(table)), [number], (words, table))

    def test_too_long_and_all_else(self):
        for table in ([0], [], [1], [LARGEST], [0] * 2000):
            self.check_next_refused("a\n" * 513, table, -2)
            self.check_next_refused("?" * 1025, table, -2)
            self.check_next_refused("?" * 2000, table, -2)

    def test_at_fault_and_all_else(self):
        for table in ([0], [], [1], [LARGEST], [0] * 2000):
            for words in ("", "a", "\n", "a\n\n", "?" * 1024, "a b\nc\n", "a b c d e f g\n", "a\n" * 7):
                self.check_next_refused(words, table, -6)

    def test_a_wrong_table_and_nothing_that_is_next(self):
        # As if they were one piece, or could not be finished.
        for table in ([], [0], [0, 0, 0], [1, 1], [LARGEST, LARGEST], [0] * 2000):
            self.check_next_refused("a b\n", table, -9)
        self.check_next_refused("a b c\n", [0, 1, 0], -9)
        self.check_next_refused("a b\nc d\n", [0, 1, 1, 0], -9)
        self.check_next_refused(NINE, [0, 0, 2, 3, 4, 2, 3, 7, 3], -9)
        self.check_next_refused("aaab\n", [0, 1, 2], -9)

    def test_nothing_that_is_next_alone(self):
        self.check_next_refused("a b\n", [0, 0], -5)
        self.check_next_refused("aaab\n", [0, 1], -5)


if __name__ == "__main__":
    unittest.main()
