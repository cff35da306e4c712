"""Tops: the forms of a square, quarters side by side, patches and their numbers."""

import unittest

from model import CallCase, start_table

# Nine squares, each a patch by itself; with nothing else, quarters and squares mean the same.
NINE = "a b c\nd e f\ng h i\n"


class SquareForms(CallCase):
    def test_one_letter(self):
        self.check_patches("a\n", 1)

    def test_slash(self):
        self.check_patches("a/b\n", 2)

    def test_backslash(self):
        self.check_patches("a\\b\n", 2)

    def test_four_letters(self):
        self.check_patches("abcd\n", 4)

    def test_the_same_letter_on_both_halves_is_one_patch(self):
        self.check_patches("a/a\n", 1)
        self.check_patches("a\\a\n", 1)
        self.check_patches("aaaa\n", 1)

    def test_large_and_small_letters_differ(self):
        self.check_patches("a A\n", 2)
        self.check_patches("aAaA\n", 4)

    def test_slash_has_its_first_letter_upper_and_left(self):
        # Beyond the left side and above lies a, so it joins there, and b does not.
        self.check_patches("a a/b\n", 2)
        self.check_patches("b a/b\n", 3)
        self.check_patches("a/b b\n", 2)
        self.check_patches("a/b a\n", 3)
        self.check_patches("a\na/b\n", 2)
        self.check_patches("b\na/b\n", 3)
        self.check_patches("a/b\nb\n", 2)
        self.check_patches("a/b\na\n", 3)

    def test_backslash_has_its_first_letter_upper_and_right(self):
        self.check_patches("a a\\b\n", 3)
        self.check_patches("b a\\b\n", 2)
        self.check_patches("a\\b b\n", 3)
        self.check_patches("a\\b a\n", 2)
        self.check_patches("a\na\\b\n", 2)
        self.check_patches("b\na\\b\n", 3)
        self.check_patches("a\\b\nb\n", 2)
        self.check_patches("a\\b\na\n", 3)

    def test_four_letters_go_upper_right_lower_left(self):
        self.check_patches("x\nxbcd\n", 4)
        self.check_patches("axcd x\n", 4)
        self.check_patches("abxd\nx\n", 4)
        self.check_patches("x abcx\n", 4)
        self.check_patches("x\nabxd\n", 5)
        self.check_patches("abcx x\n", 5)


class Patches(CallCase):
    def test_four_quarters_lie_in_a_ring(self):
        self.check_patches("aabb\n", 2)
        self.check_patches("abba\n", 2)
        self.check_patches("aaba\n", 2)
        self.check_patches("abab\n", 4)
        self.check_patches("abac\n", 4)

    def test_a_patch_over_several_squares(self):
        self.check_patches("a a a\nb b a\na a a\n", 2)
        self.check_patches("a/b b/c c/a\n", 4)

    def test_squares_that_meet_in_a_corner_do_not_hang_together(self):
        self.check_patches("a b\nb a\n", 4)

    def test_a_row_does_not_go_on_in_the_next(self):
        self.check_patches("a b c\nd e f\n", 6)
        self.check_patches("a b c\nc d e\n", 6)
        self.check_patches("bbbx bbxb\nxccc cxcc\n", 6)

    def test_the_top_has_no_way_round_its_edge(self):
        self.check_patches("a b a\n", 3)
        self.check_patches("a\nb\na\n", 3)

    def test_wide_and_high_are_not_mixed_up(self):
        self.check_patches("a a a\nb c d\n", 4)
        self.check_patches("a b\na c\na d\n", 4)
        self.check_patches("a b c d e f\na g h i j k\n", 11)
        self.check_patches("a b\na c\nd c\ne e\nf g\nh i\n", 9)

    def test_patches_are_numbered_as_they_come_first(self):
        # Upper, right, lower, left: patches 0 to 3; 0 and 2 do not touch.
        self.check_right("abcd\n", [0, 0, 2, 3], 3)
        self.check_right("abcd\n", [0, 1, 1, 3], 3)
        self.check_right("abcd\n", [0, 1, 2, 2], 3)
        self.check_right("abcd\n", [0, 1, 2, 0], 3)
        self.check_refused("abcd\n", [0, 1, 0, 3], -9)
        self.check_refused("abcd\n", [0, 1, 2, 1], -9)

    def test_numbers_go_by_the_first_quarter_not_by_the_letter(self):
        # z is 0, b 1, a 2; z and a meet in a corner alone.
        self.check_right("z b\nb a\n", [0, 0, 2, 3], 3)
        self.check_refused("z b\nb a\n", [0, 1, 2, 0], -9)

    def test_numbers_go_by_squares_first(self):
        # a of the first square is 0, b 1; then c, which lies beside b alone.
        self.check_right("a/b c\n", [0, 1, 1], 2)
        self.check_refused("a/b c\n", [0, 1, 0], -9)
        self.check_right("a\\b c\n", [0, 1, 0], 2)
        self.check_refused("a\\b c\n", [0, 1, 1], -9)

    def test_numbers_go_by_rows_first(self):
        # 0 1 2 over 3 4 5.
        self.check_right("a b c\nd e f\n", [0, 1, 2, 0, 1, 2], 3)
        self.check_refused("a b c\nd e f\n", [0, 1, 2, 2, 4, 5], -9)


class Sizes(CallCase):
    def test_each_size_from_one_to_six(self):
        for high in range(1, 7):
            for wide in range(1, 7):
                with self.subTest(wide=wide, high=high):
                    letters = [chr(65 + k) if k < 26 else chr(71 + k) for k in range(wide * high)]
                    lines = [" ".join(letters[y * wide:y * wide + wide]) for y in range(high)]
                    self.check_patches("\n".join(lines) + "\n", wide * high)

    def test_each_size_with_all_quarters_apart(self):
        for high in range(1, 7):
            for wide in range(1, 7):
                with self.subTest(wide=wide, high=high):
                    squares = [["abcd" if (x + y) % 2 else "efgh" for x in range(wide)] for y in range(high)]
                    words = "".join(" ".join(row) + "\n" for row in squares)
                    self.check_patches(words, 4 * wide * high)

    def test_the_largest_top_as_one_patch(self):
        self.check_patches("a a a a a a\n" * 6, 1)
        self.check_patches("aaaa a/a a\\a a aaaa a\n" * 6, 1)

    def test_seven_wide(self):
        self.check_right("a a a a a a\n", [0], 1)
        self.check_refused("a a a a a a a\n", [0], -6)
        self.check_refused("a a a a a a a\n" * 2, [0], -6)

    def test_seven_high(self):
        self.check_right("a\n" * 6, [0], 1)
        self.check_refused("a\n" * 7, [0], -6)
        self.check_refused("a a a a a a\n" * 7, [0], -6)

    def test_far_too_wide_and_high(self):
        self.check_refused("a" + " a" * 510 + "\n", [0], -6)
        self.check_refused("a\n" * 512, [0], -6)


class Pieces(CallCase):
    def test_the_beginning(self):
        self.check_right(NINE, start_table(9), 9)

    def test_all_in_one_piece(self):
        self.check_right(NINE, [0] * 9, 1)
        self.check_right("a\n", [0], 1)

    def test_pieces_of_several_patches(self):
        self.check_right(NINE, [0, 0, 2, 0, 4, 2, 6, 6, 2], 4)
        self.check_right(NINE, [0, 0, 0, 3, 3, 3, 6, 6, 6], 3)
        self.check_right(NINE, [0, 1, 0, 0, 1, 0, 0, 0, 0], 2)

    def test_a_piece_round_another(self):
        self.check_right(NINE, [0, 0, 0, 0, 4, 0, 0, 0, 0], 2)

    def test_four_pairs_about_the_middle_one(self):
        self.check_right(NINE, [0, 0, 2, 3, 4, 2, 3, 7, 7], 5)

    def test_a_piece_that_hangs_together_through_one_quarter(self):
        # b, the right quarter of the left square, is all that joins the two.
        self.check_right("abcd e\n", [0, 0, 2, 3, 0], 3)
        self.check_refused("abcd e\n", [0, 1, 2, 3, 0], -9)

    def test_a_long_piece(self):
        words = "a b\nc d\ne f\ng h\ni j\nk l\n"
        self.check_right(words, [0, 1, 0, 1, 0, 1, 0, 1, 0, 1, 0, 1], 2)
        self.check_right(words, [0, 0, 2, 0, 0, 0, 0, 7, 0, 0, 10, 0], 4)


if __name__ == "__main__":
    unittest.main()
