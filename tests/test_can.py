"""Can: whether it can be finished, that is, whether some sewing, pair by pair, comes to one piece."""

import random
import unittest

from model import (ALL_APART, NINE, SMALL_TOPS, CallCase, about_the_middle, bytes_of, cut_about, cut_at_random, joined,
                   model_can, model_pairs, model_straight, right_tables, start_table, table_of, two_by_two)
from patchtable.hall import can, may, pairs, sew

LARGEST = 4294967295


class OnePiece(CallCase):
    def test_it_is_finished(self):
        self.check_can("a\n", [0], 1)
        self.check_can("abcd\n", [0, 0, 0, 0], 1)
        self.check_can("a b\nc d\n", [0, 0, 0, 0], 1)
        self.check_can(NINE, [0] * 9, 1)

    def test_whatever_patches_it_has(self):
        # No sewing comes to these from the beginning, but one piece is one piece.
        self.check_can("aaab\n", [0, 0], 1)
        self.check_can("a a a\na b a\na a a\n", [0, 0], 1)
        self.check_can("a a b\nc d b\nc e e\n", [0] * 5, 1)


class TwoPieces(CallCase):
    def check_two(self, words, table, number):
        self.assertEqual(may(min(table), max(table), bytes_of(words), table)[1], number)
        self.check_can(words, table, number)

    def test_two_that_may_be_sewn(self):
        self.check_two("a b\n", [0, 1], 1)
        self.check_two("a\nb\n", [0, 1], 1)
        self.check_two("a/b\n", [0, 1], 1)
        self.check_two("a\\b\n", [0, 1], 1)
        self.check_two("abcd\n", [0, 0, 2, 2], 1)
        self.check_two("abcd\n", [0, 1, 1, 0], 1)
        self.check_two("a a a/b\na a/b b\n", [0, 1], 1)
        self.check_two("b a\\b a\nb b a\\b\n", [0, 1], 1)

    def test_two_that_may_not_be_sewn(self):
        self.check_two("aaab\n", [0, 1], 0)
        self.check_two("abcd\n", [0, 1, 0, 0], 0)
        self.check_two("a a\na b\n", [0, 1], 0)
        self.check_two("a b\nc d\n", [0, 1, 1, 1], 0)
        self.check_two("a a a\na b a\na a a\n", [0, 1], 0)
        self.check_two("a a b\na b b\n", [0, 1], 0)


class FromTheBeginning(CallCase):
    def test_tops_that_can_be_finished(self):
        self.check_can("abcd\n", start_table(4), 1)
        self.check_can("a b c\nd e f\n", start_table(6), 1)
        self.check_can("a b\nc d\ne f\n", start_table(6), 1)
        self.check_can(NINE, start_table(9), 1)
        self.check_can("a/b c\\d\nefgh i\n", start_table(9), 1)
        self.check_can("a a b\nc c b\n", start_table(3), 1)
        self.check_can("a b b\na c d\n", start_table(4), 1)

    def test_tops_that_can_not(self):
        self.check_can("a a b\nc d b\nc e e\n", start_table(5), 0)
        self.check_can("b c c\nb d a\ne e a\n", start_table(5), 0)
        self.check_can("a a b\na c b\n", start_table(3), 0)
        self.check_can("a\\b a\nb b\n", start_table(2), 0)
        self.check_can("aaab cdef\n", start_table(6), 0)

    def test_one_line_of_each_direction_that_all_hangs_on(self):
        # Each top is parted by one line alone; behind it others part what is left.
        self.check_can("a a b\na a b\nc d d\n", [0, 1, 2, 3], 1)
        self.check_can("a b b\na c d\na c d\n", [0, 1, 2, 3], 1)
        self.check_can("a\\b a\nb c\\d\n", [0, 1, 2, 3], 1)
        self.check_can("a b/c\nd/c c\n", [0, 1, 2, 3], 1)

    def test_some_pairs_may_be_sewn_but_not_to_one_piece(self):
        words = "a a b\na c d\n"
        self.check_pairs(words, start_table(4), (0, 1), (1, 3), (2, 3))
        self.check_can(words, start_table(4), 0)
        self.check_can(words, [0, 0, 2, 3], 0)
        self.check_can(words, [0, 1, 2, 1], 0)
        self.check_can(words, [0, 1, 2, 2], 0)

    def test_a_part_that_can_not_be_finished_beside_others_that_can(self):
        self.check_can("a b c d d e\na b c f e e\n", start_table(6), 0)
        self.check_can("a b c d d e\na b c f f e\n", start_table(6), 1)
        self.check_can("d e a b c c\nd d a b c c\n", start_table(5), 0)


class SewnFurther(CallCase):
    def sew_all(self, words, count, *told):
        """Sew pairs from the beginning, each of which may be sewn."""
        table = start_table(count)
        for i, j in told:
            answer = sew(i, j, bytes_of(words), table)
            self.assertEqual(answer[0], 0)
            table = answer[1:]
        return table

    def test_four_pairs_about_the_middle_one(self):
        self.check_can(NINE, self.sew_all(NINE, 9, (0, 1), (2, 5), (3, 6), (7, 8)), 0)
        self.check_can(NINE, self.sew_all(NINE, 9, (1, 2), (5, 8), (6, 7), (0, 3)), 0)
        self.check_can(NINE, [0, 0, 2, 3, 4, 2, 3, 7, 7], 0)
        self.check_can(NINE, [0, 1, 1, 0, 4, 5, 6, 6, 5], 0)

    def test_each_step_on_the_way_to_the_four_pairs(self):
        self.check_can(NINE, self.sew_all(NINE, 9), 1)
        self.check_can(NINE, self.sew_all(NINE, 9, (0, 1)), 1)
        self.check_can(NINE, self.sew_all(NINE, 9, (0, 1), (2, 5)), 1)
        self.check_can(NINE, self.sew_all(NINE, 9, (0, 1), (2, 5), (3, 6)), 1)
        self.check_can(NINE, self.sew_all(NINE, 9, (0, 1), (2, 5), (3, 6), (4, 7)), 1)
        self.check_can(NINE, self.sew_all(NINE, 9, (0, 1), (2, 5), (3, 6), (2, 8)), 1)

    def test_two_that_fit_and_leave_an_edge_with_a_corner(self):
        words = "a b\nc d\\e\n"
        self.check_can(words, self.sew_all(words, 5, (2, 4)), 1)
        self.check_can(words, self.sew_all(words, 5, (2, 4), (0, 2)), 0)
        self.check_can(words, self.sew_all(words, 5, (2, 4), (0, 2), (1, 3)), 0)
        self.check_can(words, self.sew_all(words, 5, (2, 4), (0, 1)), 1)

    def test_to_the_end(self):
        self.check_can(NINE, self.sew_all(NINE, 9, (0, 1), (0, 2), (3, 4), (3, 5), (0, 3)), 1)
        self.check_can(NINE, self.sew_all(NINE, 9, (0, 1), (0, 2), (3, 4), (3, 5), (0, 3), (6, 7), (6, 8)), 1)
        self.check_can("abcd\n", self.sew_all("abcd\n", 4, (0, 1), (2, 3)), 1)
        self.check_can("abcd\n", self.sew_all("abcd\n", 4, (0, 1), (2, 3), (0, 2)), 1)


class AgainstTheModel(CallCase):
    def test_some_sewing_pair_by_pair_comes_to_one_piece(self):
        for words in SMALL_TOPS:
            for table in right_tables(words):
                self.check_can(words, table, 1 if model_can(words, table) else 0)

    def test_straight_seams(self):
        for words in SMALL_TOPS:
            for table in right_tables(words):
                self.check_can(words, table, 1 if model_straight(words, table) else 0)

    def test_both_answers_are_met(self):
        for words in (NINE, "abcd efgh\n", "a b\nc d\ne f\n", "a\\b c/d\ne/f g\\h\n"):
            self.assertEqual({model_can(words, table) for table in right_tables(words)}, {True, False})

    def test_while_larger_tops_are_sewn(self):
        for words, count in (("abcd efgh\nijkl mnop\n", 16), ("a b c d\ne f g h\ni j k l\n", 12),
                             ("a/b c\\d efgh\nijkl m n/o\np/q r s\\t\n", 20)):
            met = set()
            for seed in range(20):
                pick = random.Random(seed)
                table = start_table(count)
                fitting = model_pairs(words, tuple(table))
                while fitting:
                    table = joined(table, *pick.choice(fitting))
                    fitting = model_pairs(words, tuple(table))
                    number = 1 if model_straight(words, table) else 0
                    self.check_can(words, table, number)
                    met.add(number)
            self.assertEqual(met, {0, 1})


class StaysSo(CallCase):
    def test_what_can_not_be_finished_stays_so_whatever_pair_is_sewn(self):
        for words in SMALL_TOPS:
            text = bytes_of(words)
            for table in right_tables(words):
                answer = pairs(text, list(table))
                behind = [can(text, sew(i, j, text, list(table))[1:])[1] for i, j in two_by_two(answer)]
                if can(text, list(table)) == [0, 0]:
                    self.assertNotIn(1, behind, (words, table))
                elif len(set(table)) > 1:
                    self.assertIn(1, behind, (words, table))


class Largest(CallCase):
    def test_as_many_patches_as_there_can_be(self):
        self.check_can(ALL_APART, start_table(144), 1)

    def test_as_many_patches_sewn_further(self):
        self.check_can(ALL_APART, [patch - patch % 4 for patch in range(144)], 1)
        self.check_can(ALL_APART, [patch - patch % 24 for patch in range(144)], 1)
        self.check_can(ALL_APART, [0] * 144, 1)

    def test_three_quarters_of_one_square_alone_spoil_it(self):
        for square in range(36):
            table = start_table(144)
            table[4 * square + 1] = table[4 * square + 2] = 4 * square
            self.check_can(ALL_APART, table, 0)

    def test_few_patches(self):
        self.check_can("a a a a a a\n" * 6, [0], 1)
        self.check_can("a a a b b b\n" * 6, [0, 1], 1)
        self.check_can("a a a b b b\n" * 5 + "a a a a b b\n", [0, 1], 0)
        self.check_can("a a a b b b\n" * 3 + "c c c d d d\n" * 3, start_table(4), 1)
        self.check_can("a a a b b b\n" * 3 + "c c d d d d\n" * 3, start_table(4), 1)

    def test_few_patches_about_the_middle(self):
        about = "a a a a b b\n" * 2 + "c c d d b b\n" * 2 + "c c e e e e\n" * 2
        self.check_can(about, start_table(5), 0)
        self.check_can(about, [0, 1, 2, 2, 2], 0)
        self.check_can(about, [0] * 5, 1)
        self.check_can("a a a a b b\n" * 2 + "c c d d b b\n" * 2 + "c c e e b b\n" * 2, start_table(5), 1)

    def test_a_falling_and_a_rising_line_through_the_whole_top(self):
        self.check_can("".join("b " * row + "a\\b" + " a" * (5 - row) + "\n" for row in range(6)), [0, 1], 1)
        self.check_can("".join("a " * (5 - row) + "a/b" + " b" * row + "\n" for row in range(6)), [0, 1], 1)

    def test_parted_by_whatever_lines(self):
        for seed in range(40):
            pick = random.Random(seed)
            parts = cut_at_random(frozenset(range(144)), pick)
            self.check_can(ALL_APART, table_of(parts), 1)

    def test_parted_by_whatever_lines_with_four_about_a_middle_one(self):
        for seed in range(40):
            pick = random.Random(seed)
            x, y = pick.randrange(4), pick.randrange(4)
            arms = about_the_middle(x, y)
            rest = [small for part in cut_about(x, y) for small in cut_at_random(part, pick)]
            self.check_can(ALL_APART, table_of(rest + arms), 0)
            self.check_can(ALL_APART, table_of(rest + [frozenset().union(*arms)]), 1)


class RefusalOrder(CallCase):
    def check_can_refused(self, words, table, number):
        self.assertEqual(can(bytes_of(words), list(table)), [number], (words, table))

    def test_too_long_and_all_else(self):
        for table in ([0], [], [1], [LARGEST], [0] * 2000):
            self.check_can_refused("a\n" * 513, table, -2)
            self.check_can_refused("?" * 1025, table, -2)
            self.check_can_refused("?" * 2000, table, -2)

    def test_at_fault_and_a_wrong_table(self):
        for table in ([0], [], [1], [LARGEST], [0] * 2000):
            for words in ("", "a", "\n", "a\n\n", "?" * 1024, "a b\nc\n", "a b c d e f g\n", "a\n" * 7):
                self.check_can_refused(words, table, -6)

    def test_a_wrong_table(self):
        for table in ([], [0], [0, 1, 2], [1, 1], [1, 0], [0, 2], [0, LARGEST], [LARGEST, LARGEST], [0] * 2000):
            self.check_can_refused("a b\n", table, -9)
        self.check_can_refused("a b c\n", [0, 1, 0], -9)
        self.check_can_refused("a b\nc d\n", [0, 1, 1, 3], -9)


if __name__ == "__main__":
    unittest.main()
