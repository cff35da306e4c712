"""May and sew: which two pieces fit, along which line, and the table when they are sewn."""

import itertools
import unittest

from model import ALL_APART, NINE, CallCase, bytes_of, model_answer, set_tables, start_table
from patchtable.hall import judge, left, may, sew

LARGEST = 4294967295
UPRIGHT, LEVEL, FALLING, RISING = range(4)


class OneSquare(CallCase):
    def test_its_halves(self):
        self.check_sewn("a/b\n", [0, 1], 0, 1, RISING, 1)
        self.check_sewn("a\\b\n", [0, 1], 0, 1, FALLING, 0)

    def test_its_quarters(self):
        self.check_sewn("abcd\n", start_table(4), 0, 1, RISING, 1)
        self.check_sewn("abcd\n", start_table(4), 1, 2, FALLING, 0)
        self.check_sewn("abcd\n", start_table(4), 2, 3, RISING, 1)
        self.check_sewn("abcd\n", start_table(4), 0, 3, FALLING, 0)

    def test_quarters_that_meet_in_the_middle_alone(self):
        self.check_not_sewn("abcd\n", start_table(4), 0, 2)
        self.check_not_sewn("abcd\n", start_table(4), 1, 3)

    def test_halves_of_two_pieces_each(self):
        self.check_sewn("abcd\n", [0, 0, 2, 2], 0, 2, FALLING, 0)
        self.check_sewn("abcd\n", [0, 1, 1, 0], 0, 1, RISING, 1)

    def test_a_half_and_a_quarter(self):
        self.check_not_sewn("abcd\n", [0, 0, 2, 3], 0, 2)
        self.check_not_sewn("abcd\n", [0, 0, 2, 3], 0, 3)

    def test_three_quarters_and_the_fourth(self):
        self.check_not_sewn("abcd\n", [0, 0, 0, 3], 0, 3)
        self.check_not_sewn("aaab\n", [0, 1], 0, 1)

    def test_one_piece(self):
        self.check_not_sewn("a\n", [0], 0, 0)
        self.check_not_sewn("abcd\n", [0, 0, 0, 0], 0, 0)


class Lines(CallCase):
    def test_upright(self):
        words = "a b c d e f\n"
        for at in range(1, 6):
            self.check_sewn(words, start_table(6), at - 1, at, UPRIGHT, at)
            self.check_sewn(words, [0] * at + [at] * (6 - at), 0, at, UPRIGHT, at)

    def test_level(self):
        words = "a\nb\nc\nd\ne\nf\n"
        for at in range(1, 6):
            self.check_sewn(words, start_table(6), at - 1, at, LEVEL, at)
            self.check_sewn(words, [0] * at + [at] * (6 - at), 0, at, LEVEL, at)

    def test_diagonals_of_each_square_of_each_size(self):
        for high, wide in itertools.product(range(1, 7), repeat=2):
            table = start_table(wide * high + 1)
            for y, x in itertools.product(range(high), range(wide)):
                first = y * wide + x
                self.check_sewn(one_cut(wide, high, first, "y\\z"), table, first, first + 1, FALLING, x - y)
                self.check_sewn(one_cut(wide, high, first, "y/z"), table, first, first + 1, RISING, x + y + 1)

    def test_an_at_below_0_of_0_and_above_0(self):
        self.assertEqual(may(1, 2, bytes_of("a\nb\\c\n"), [0, 1, 2]), [0, 1, 2, 63])
        self.assertEqual(may(0, 1, bytes_of("b\\c\na\n"), [0, 1, 2]), [0, 1, 2, 64])
        self.assertEqual(may(1, 2, bytes_of("a b\\c\n"), [0, 1, 2]), [0, 1, 2, 65])
        self.assertEqual(may(0, 1, bytes_of("a b\n"), [0, 1]), [0, 1, 0, 65])
        self.assertEqual(may(0, 1, bytes_of("a\nb\n"), [0, 1]), [0, 1, 1, 65])
        self.assertEqual(may(0, 1, bytes_of("a/b\n"), [0, 1]), [0, 1, 3, 65])

    def test_the_outermost(self):
        last = "a a a a a a\n" * 5
        self.check_sewn(last + "b\\c a a a a a\n", [0, 1, 2], 1, 2, FALLING, -5)
        self.check_sewn("a a a a a b\\c\n" + last, [0, 1, 2], 1, 2, FALLING, 5)
        self.check_sewn("b/c a a a a a\n" + last, [0, 1, 2], 0, 1, RISING, 1)
        self.check_sewn(last + "a a a a a b/c\n", [0, 1, 2], 1, 2, RISING, 11)

    def test_falling_over_several_squares(self):
        self.check_sewn("a\\b a a\nb a\\b a\nb b a\\b\n", [0, 1], 0, 1, FALLING, 0)
        self.check_sewn("b a\\b a\nb b a\\b\n", [0, 1], 0, 1, FALLING, 1)
        self.check_sewn("a a\na\\b a\nb a\\b\nb b\n", [0, 1], 0, 1, FALLING, -1)

    def test_rising_over_several_squares(self):
        self.check_sewn("a a a/b\na a/b b\na/b b b\n", [0, 1], 0, 1, RISING, 3)
        self.check_sewn("a a/b b\na/b b b\n", [0, 1], 0, 1, RISING, 2)
        self.check_sewn("a a\na a/b\na/b b\nb b\n", [0, 1], 0, 1, RISING, 3)

    def test_a_part_of_a_line_on_which_others_lie_too(self):
        self.check_sewn("a b\nc d\n", start_table(4), 0, 1, UPRIGHT, 1)
        self.check_sewn("a b\nc d\n", start_table(4), 2, 3, UPRIGHT, 1)
        self.check_sewn("a b\nc d\n", start_table(4), 0, 2, LEVEL, 1)
        self.check_sewn("a b\nc d\n", start_table(4), 1, 3, LEVEL, 1)
        self.check_sewn("a\\b c\nd e\\f\n", start_table(6), 0, 1, FALLING, 0)
        self.check_sewn("a\\b c\nd e\\f\n", start_table(6), 4, 5, FALLING, 0)

    def test_pieces_that_are_not_as_high_away_from_the_line(self):
        # 0 is a triangle, 1 a square, and their side on the line is the same.
        self.check_sewn("a/b c\n", [0, 1, 2], 1, 2, UPRIGHT, 1)
        self.check_sewn("a/b c\n", [0, 1, 2], 0, 1, RISING, 1)
        self.check_not_sewn("a/b c\n", [0, 1, 2], 0, 2)

    def test_a_piece_with_a_notch_away_from_the_line(self):
        self.check_sewn("a a b\nc a b\na a b\n", [0, 1, 2], 0, 1, UPRIGHT, 2)

    def test_quarters_of_two_squares(self):
        # Right of the left square and left of the right one, then lower and upper.
        self.check_sewn("abcd efgh\n", start_table(8), 1, 7, UPRIGHT, 1)
        self.check_sewn("abcd\nefgh\n", start_table(8), 2, 4, LEVEL, 1)


def one_cut(wide, high, place, square):
    """A top on which each square has a letter of its own, but one, that is cut."""
    squares = [chr(65 + k) if k < 26 else chr(71 + k) for k in range(wide * high)]
    squares[place] = square
    return "".join(" ".join(squares[row * wide:row * wide + wide]) + "\n" for row in range(high))


class NotSewn(CallCase):
    def test_the_same_piece_twice(self):
        for piece in range(9):
            self.check_not_sewn(NINE, start_table(9), piece, piece)
        self.check_not_sewn(NINE, [0, 0, 2, 3, 0, 2, 3, 7, 7], 0, 0)
        self.check_not_sewn("a b\n", [0, 0], 0, 0)

    def test_pieces_that_do_not_lie_beside_one_another(self):
        self.check_not_sewn("a b c\n", [0, 1, 2], 0, 2)
        self.check_not_sewn("a\nb\nc\n", [0, 1, 2], 0, 2)
        self.check_not_sewn(NINE, start_table(9), 0, 8)
        self.check_not_sewn(NINE, start_table(9), 2, 3)

    def test_pieces_that_meet_in_a_corner(self):
        self.check_not_sewn("a b\nc d\n", start_table(4), 0, 3)
        self.check_not_sewn("a b\nc d\n", start_table(4), 1, 2)
        # Two upper quarters meet in a corner, and neither has a side on the line there.
        self.check_not_sewn("abcd efgh\n", start_table(8), 0, 4)
        self.check_not_sewn("abcd efgh\n", start_table(8), 2, 6)
        self.check_not_sewn("abcd\nefgh\n", start_table(8), 1, 5)

    def test_pieces_that_no_line_has_on_its_two_sides(self):
        self.check_not_sewn("a b\nc d\n", [0, 0, 0, 3], 0, 3)
        self.check_not_sewn("a b\nc d\n", [0, 1, 1, 1], 0, 1)
        self.check_not_sewn(NINE, [0, 0, 0, 0, 4, 0, 0, 0, 0], 0, 4)
        self.check_not_sewn(NINE, [0, 0, 0, 0, 4, 0, 0, 7, 0], 0, 7)
        self.check_not_sewn("a b\nb b\n", [0, 1], 0, 1)
        self.check_not_sewn("a b b\na a b\n", [0, 1], 0, 1)

    def test_a_side_towards_a_third_piece(self):
        self.check_not_sewn("a a\nb c\n", [0, 1, 2], 0, 1)
        self.check_not_sewn("a a\nb c\n", [0, 1, 2], 0, 2)
        self.check_not_sewn("a b\nc c\n", [0, 1, 2], 0, 2)
        self.check_not_sewn("a b\nc c\n", [0, 1, 2], 1, 2)
        self.check_not_sewn("a b\na c\n", [0, 1, 2], 0, 1)
        self.check_not_sewn("a b\na c\n", [0, 1, 2], 0, 2)
        self.check_not_sewn("a b\nc b\n", [0, 1, 2], 0, 1)
        self.check_not_sewn("a b\nc b\n", [0, 1, 2], 1, 2)

    def test_a_side_towards_a_third_piece_on_a_diagonal(self):
        self.check_not_sewn("aabc\n", [0, 1, 2], 0, 1)
        self.check_not_sewn("aabc\n", [0, 1, 2], 0, 2)
        self.check_not_sewn("abbc\n", [0, 1, 2], 0, 1)
        self.check_not_sewn("abbc\n", [0, 1, 2], 1, 2)
        self.check_not_sewn("a\\b a\nb a\\c\n", [0, 1, 2], 0, 1)
        self.check_not_sewn("a a/b\na/c b\n", [0, 1, 2], 0, 2)

    def test_each_has_a_side_towards_a_third_piece(self):
        self.check_not_sewn("a b\na c\nd c\n", [0, 1, 2, 3], 0, 2)
        self.check_not_sewn("a a b\nc d d\n", [0, 1, 2, 3], 0, 3)

    def test_a_third_piece_far_along_the_line(self):
        # 0 has a side towards 2 on the line, with a gap between it and those towards 1.
        words = "a a b\na c b\na a d\n"
        self.check_not_sewn(words, start_table(4), 0, 1)
        self.check_not_sewn(words, start_table(4), 0, 3)

    def test_a_gap_on_an_upright_line(self):
        words = "a a b b\na c d b\na a b b\n"
        self.check_not_sewn(words, [0, 1, 2, 3], 0, 1)
        self.check_not_sewn(words, [0, 1, 2, 2], 0, 1)
        self.check_sewn(words, [0, 1, 2, 3], 2, 3, UPRIGHT, 2)

    def test_a_gap_on_a_level_line(self):
        words = "a a a\na c a\nb d b\nb b b\n"
        self.check_not_sewn(words, [0, 1, 2, 3], 0, 2)
        self.check_not_sewn(words, [0, 1, 2, 1], 0, 2)
        self.check_sewn(words, [0, 1, 2, 3], 1, 3, LEVEL, 2)

    def test_a_gap_on_a_falling_line(self):
        words = "a\\b a a\nb c\\d a\nb b a\\b\n"
        self.check_not_sewn(words, [0, 1, 2, 3], 0, 1)
        self.check_not_sewn(words, [0, 1, 2, 2], 0, 1)
        self.check_sewn(words, [0, 1, 2, 3], 2, 3, FALLING, 0)

    def test_a_gap_on_a_rising_line(self):
        words = "a a a/b\na c/d b\na/b b b\n"
        self.check_not_sewn(words, [0, 1, 2, 3], 0, 1)
        self.check_not_sewn(words, [0, 1, 2, 2], 0, 1)
        self.check_sewn(words, [0, 1, 2, 3], 2, 3, RISING, 3)

    def test_a_gap_of_half_a_diagonal(self):
        self.check_not_sewn("a\\b a a\nb accb a\nb b a\\b\n", [0, 1, 2], 0, 1)
        self.check_not_sewn("a a a/b\na abcc b\na/b b b\n", [0, 1, 2], 0, 1)

    def test_a_gap_of_half_of_each_of_two_diagonals(self):
        # d lies about the corner between the two squares.
        self.check_not_sewn("a\\b a a a\nb addb aadd a\nb ddbb dabd a\nb b b a\\b\n", [0, 1, 2], 0, 1)

    def test_two_gaps(self):
        words = "a a b b\na c d b\na a b b\na e f b\na a b b\n"
        self.check_not_sewn(words, start_table(6), 0, 1)


class AboutTheMiddle(CallCase):
    def test_four_pairs_about_the_middle_one(self):
        table = start_table(9)
        for i, j in ((0, 1), (2, 5), (8, 7), (6, 3)):
            answer = sew(i, j, bytes_of(NINE), table)
            self.assertEqual(answer[0], 0)
            table = answer[1:]
        self.assertEqual(table, [0, 0, 2, 3, 4, 2, 3, 7, 7])
        for i, j in itertools.product((0, 2, 3, 4, 7), repeat=2):
            self.check_not_sewn(NINE, table, i, j)

    def test_the_other_way_round(self):
        table = [0, 1, 1, 0, 4, 5, 6, 6, 5]
        for i, j in itertools.product((0, 1, 4, 5, 6), repeat=2):
            self.check_not_sewn(NINE, table, i, j)

    def test_three_pairs_leave_one_more(self):
        table = [0, 0, 2, 3, 4, 2, 3, 7, 8]
        self.check_sewn(NINE, table, 7, 8, UPRIGHT, 2)
        self.check_sewn(NINE, table, 4, 7, LEVEL, 2)
        self.check_sewn(NINE, table, 2, 8, LEVEL, 2)
        self.check_not_sewn(NINE, table, 3, 4)


class NoPiece(CallCase):
    def test_no_patch_at_all(self):
        for number in (4, 5, 16, 255, 2147483648, 4294967294, LARGEST):
            self.check_no_piece("a b\nc d\n", start_table(4), number, 0)
            self.check_no_piece("a b\nc d\n", start_table(4), number, 3)
            self.check_no_piece("a b\nc d\n", start_table(4), number, 7)
            self.check_no_piece("a b\nc d\n", start_table(4), number, number)

    def test_quarters_and_squares_are_not_pieces(self):
        self.check_no_piece("a a\nb b\n", [0, 1], 0, 2)
        self.check_no_piece("a\n", [0], 0, 1)
        self.check_no_piece("a\n", [0], 3, 3)

    def test_a_patch_that_is_not_the_least_of_its_piece(self):
        table = [0, 0, 2, 2]
        for number in (1, 3):
            self.check_no_piece("a b\nc d\n", table, number, 0)
            self.check_no_piece("a b\nc d\n", table, number, 2)
            self.check_no_piece("a b\nc d\n", table, number, number)
        self.check_no_piece("a b\nc d\n", table, 1, 3)
        self.check_no_piece("a b\n", [0, 0], 0, 1)
        self.check_no_piece("a b\n", [0, 0], 1, LARGEST)
        self.check_sewn("a b\nc d\n", table, 0, 2, LEVEL, 1)

    def test_the_last_piece(self):
        self.check_sewn("a b\nc d\n", start_table(4), 2, 3, UPRIGHT, 1)
        self.check_no_piece("a b\nc d\n", start_table(4), 2, 4)
        self.check_not_sewn("a b\nc d\n", start_table(4), 3, 3)
        self.check_no_piece("a b\nc d\n", start_table(4), 4, 4)


class RefusalOrder(CallCase):
    def check_two_refused(self, words, table, i, j, number):
        for one, other in ((i, j), (j, i)):
            self.assertEqual(may(one, other, bytes_of(words), list(table)), [number], (words, table, one, other))
            self.assertEqual(sew(one, other, bytes_of(words), list(table)), [number], (words, table, one, other))

    def test_too_long_and_all_else(self):
        for table in ([0], [], [LARGEST]):
            for j in (0, 1, LARGEST):
                self.check_two_refused("a\n" * 513, table, 0, j, -2)
                self.check_two_refused("?" * 2000, table, LARGEST, j, -2)

    def test_at_fault_and_all_else(self):
        for table in ([0], [], [LARGEST]):
            for j in (0, 1, LARGEST):
                self.check_two_refused("", table, 0, j, -6)
                self.check_two_refused("a", table, LARGEST, j, -6)
                self.check_two_refused("?" * 1024, table, 1, j, -6)

    def test_a_wrong_table_and_no_such_piece(self):
        for table in ([], [0], [0, 1, 2], [1, 1], [0, LARGEST], [LARGEST, LARGEST]):
            for i, j in itertools.product((0, 1, 2, LARGEST), repeat=2):
                self.check_two_refused("a b\n", table, i, j, -9)

    def test_a_wrong_table_and_pieces_that_may_not_be_sewn(self):
        self.check_two_refused("a b c\n", [0, 1, 0], 0, 0, -9)
        self.check_two_refused("a b\nc d\n", [0, 1, 1, 3], 0, 3, -9)

    def test_no_such_piece_and_not_sewn(self):
        self.check_two_refused("a b\n", [0, 1], 2, 2, -4)
        self.check_two_refused("a b\n", [0, 0], 1, 1, -4)
        self.check_two_refused("a b c\n", [0, 1, 1], 0, 2, -4)


class Sewn(CallCase):
    def sew_on(self, words, table, i, j, direction, at):
        self.check_sewn(words, table, i, j, direction, at)
        return sew(i, j, bytes_of(words), table)[1:]

    def test_each_patch_of_the_greater_piece_is_told_the_lesser(self):
        self.assertEqual(sew(1, 0, bytes_of(NINE), [0, 1, 1, 0, 1, 1, 6, 6, 6]), [0, 0, 0, 0, 0, 0, 0, 6, 6, 6])
        self.assertEqual(sew(0, 6, bytes_of(NINE), [0, 0, 0, 0, 0, 0, 6, 6, 6]), [0] * 10)
        self.assertEqual(sew(5, 8, bytes_of(NINE), [0, 0, 0, 3, 4, 5, 3, 4, 8]), [0, 0, 0, 0, 3, 4, 5, 3, 4, 5])

    def test_other_pieces_stay_as_they_are(self):
        self.assertEqual(sew(4, 3, bytes_of(NINE), [0, 1, 2, 3, 4, 2, 6, 7, 2]), [0, 0, 1, 2, 3, 3, 2, 6, 7, 2])

    def test_the_largest_top_to_the_end(self):
        table = start_table(144)
        for square in range(36):
            x, y, first = square % 6, square // 6, 4 * square
            if (x + y) % 2:
                table = self.sew_on(ALL_APART, table, first, first + 1, RISING, x + y + 1)
                table = self.sew_on(ALL_APART, table, first + 3, first + 2, RISING, x + y + 1)
                table = self.sew_on(ALL_APART, table, first, first + 2, FALLING, x - y)
            else:
                table = self.sew_on(ALL_APART, table, first, first + 3, FALLING, x - y)
                table = self.sew_on(ALL_APART, table, first + 2, first + 1, FALLING, x - y)
                table = self.sew_on(ALL_APART, table, first + 1, first, RISING, x + y + 1)
        for y in range(6):
            for x in range(1, 6):
                table = self.sew_on(ALL_APART, table, 24 * y, 24 * y + 4 * x, UPRIGHT, x)
        for y in range(1, 6):
            table = self.sew_on(ALL_APART, table, 24 * y, 0, LEVEL, y)
        self.assertEqual(table, [0] * 144)

    def test_whatever_is_sewn_is_right_and_has_a_piece_fewer(self):
        for words, count in (("a/b c\\d efgh\nijkl m n/o\np/q r s\\t\n", 20), ("abcd efgh abcd\nijkl mnop ijkl\n", 24)):
            for step in (1, 7, 11, 13, 17, 31, 101):
                self.sew_while_some_fit(words, start_table(count), step)

    def sew_while_some_fit(self, words, table, step):
        """Go on with the pair that stands some steps further, until none fits."""
        two = list(itertools.combinations(range(len(table)), 2))
        place = passed = 0
        while passed < len(two):
            i, j = two[place]
            place = (place + step) % len(two)
            passed += 1
            if table[i] == i and table[j] == j and may(i, j, bytes_of(words), table)[1] == 1:
                self.check_two_model(words, table, i, j)
                answer = sew(i, j, bytes_of(words), table)
                self.assertEqual(answer[0], 0)
                self.assertEqual(judge(bytes_of(words), answer[1:]), [0])
                self.assertEqual(left(bytes_of(words), answer[1:]), [0, left(bytes_of(words), table)[1] - 1])
                table = answer[1:]
                passed = 0
        for i, j in itertools.combinations(sorted(set(table)), 2):
            self.check_two_model(words, table, i, j)


class AgainstTheModel(CallCase):
    """Every two pieces of every right table of some tops, against the second way."""

    tops = ("a b c\nd e f\n", "a b\nc d\ne f\n", "abcd e/f\n", "abcd\ne\\f\n",
            "a/b c\\d\ne f\n", "a\\b c\nd e\\f\n", "a b/c\nd/e f\n", "a b a b a b\n", "a b b\na c d\n",
            "a\\b a a\nb c\\d a\nb b a\\b\n", "a a b b\na c d b\na a b b\n", "aacb a\nb\\a c\n")

    def test_every_two_pieces(self):
        for words in self.tops:
            count = [n for n in range(1, 12) if model_answer(words, start_table(n))[0] == 0][0]
            for table in set_tables(count):
                if model_answer(words, table)[0] == 0:
                    for i, j in itertools.combinations_with_replacement(range(count + 1), 2):
                        self.check_two_model(words, table, i, j)


if __name__ == "__main__":
    unittest.main()
