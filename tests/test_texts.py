"""A block's text: its edges, and the texts that are at fault."""

import unittest

from model import CallCase, start_table

BESIDE_LETTERS = (64, 91, 96, 123)
NO_LETTERS = (0, 9, 11, 13, 33, 45, 46, 48, 57, 63, 95, 124, 127, 128, 193, 225, 255)


class Letters(CallCase):
    def test_first_and_last_letters(self):
        for letter in "azAZ":
            other = "M"
            self.check_right(letter + "\n", [0], 1)
            self.check_right(letter + "/" + other + "\n", [0, 1], 2)
            self.check_right(other + "\\" + letter + "\n", [0, 1], 2)
            self.check_right(letter + other + letter + other + "\n", start_table(4), 4)

    def test_every_letter(self):
        for byte in range(256):
            known = chr(byte) in "abcdefghijklmnopqrstuvwxyzABCDEFGHIJKLMNOPQRSTUVWXYZ"
            if known:
                self.check_right(chr(byte) + "\n", [0], 1)
            else:
                self.check_refused(chr(byte) + "\n", [0], -6)

    def test_bytes_beside_the_letters_in_every_form(self):
        forms = ("{}", "{}/b", "a/{}", "{}\\b", "a\\{}", "{}bcd", "a{}cd", "ab{}d", "abc{}")
        for form in forms:
            self.check_refused(form.format("/") + "\n", start_table(4), -6)
            for byte in BESIDE_LETTERS + NO_LETTERS:
                words = form.format(chr(byte)) + "\n"
                for count in (1, 2, 4):
                    self.check_refused(words, start_table(count), -6)


class Squares(CallCase):
    def test_two_and_three_and_five_letters(self):
        for square in ("aa", "ab", "aaa", "abc", "aaaaa", "abcde", "aaaaaaaa"):
            self.check_refused(square + "\n", [0], -6)

    def test_wrong_signs_between(self):
        for byte in range(256):
            if chr(byte) not in " \n/\\":
                self.check_refused("a" + chr(byte) + "a\n", [0], -6)

    def test_halves_that_are_not_whole(self):
        for square in ("/", "\\", "a/", "/a", "a\\", "\\a", "a//a", "a/\\a", "a/aa", "aa/a", "a/a/a", "/a/", "a/a\\a"):
            self.check_refused(square + "\n", [0], -6)


class Rows(CallCase):
    def test_no_bytes(self):
        self.check_refused("", [0], -6)
        self.check_refused("", [], -6)

    def test_row_ends_and_blanks_alone(self):
        for words in ("\n", "\n\n", " ", " \n", "  \n"):
            self.check_refused(words, [], -6)
            self.check_refused(words, [0], -6)

    def test_fewer_squares_than_the_first(self):
        self.check_refused("a a\na\n", [0], -6)
        self.check_refused("a a a\na a a\na a\n", [0], -6)
        self.check_refused("a a\na\na a\n", [0], -6)

    def test_more_squares_than_the_first(self):
        self.check_refused("a\na a\n", [0], -6)
        self.check_refused("a a\na a\na a a\n", [0], -6)
        self.check_refused("a a\na a a\na\n", [0], -6)

    def test_no_row_end_behind_the_last_row(self):
        self.check_refused("a", [0], -6)
        self.check_refused("a a", [0], -6)
        self.check_refused("a a\na a", [0], -6)
        self.check_refused("a\n" * 5 + "a", [0], -6)

    def test_row_ends_too_many(self):
        self.check_refused("a\n\n", [0], -6)
        self.check_refused("\na\n", [0], -6)
        self.check_refused("a\n\na\n", [0], -6)

    def test_two_blanks(self):
        self.check_refused("a  a\n", [0], -6)
        self.check_refused("a a\na  a\n", [0], -6)

    def test_a_blank_at_a_rows_end_or_start(self):
        self.check_refused("a \n", [0], -6)
        self.check_refused(" a\n", [0], -6)
        self.check_refused("a a \n", [0], -6)
        self.check_refused("a a\na a \n", [0], -6)
        self.check_refused("a a a a a a \n", [0], -6)

    def test_other_row_ends_and_blanks(self):
        self.check_refused("a\r\n", [0], -6)
        self.check_refused("a\r", [0], -6)
        self.check_refused("a\ta\n", [0], -6)
        self.check_refused("a\n\x00", [0], -6)
        self.check_refused("a\n ", [0], -6)

    def test_a_text_that_ends_too_early(self):
        words = "a b/c d\\e\nfghi j k\n"
        # Behind each whole row it is a block's text of fewer rows; all else is cut short.
        for length in range(len(words)):
            if length == words.index("\n") + 1:
                self.check_right(words[:length], start_table(5), 5)
            else:
                self.check_refused(words[:length], start_table(5), -6)
        self.check_right(words, start_table(11), 11)


class Lengths(CallCase):
    def test_1024_bytes(self):
        self.check_refused("a" * 1024, [0], -6)
        self.check_refused("a\n" * 512, [0], -6)
        self.check_refused("a\n" + " " * 1022, [0], -6)

    def test_1025_bytes(self):
        self.check_refused("a" * 1025, [0], -2)
        self.check_refused("a\n" * 512 + "a", [0], -2)
        self.check_refused("a\n" + "\n" * 1023, [0], -2)

    def test_2000_bytes(self):
        self.check_refused("a\n" * 1000, [0], -2)
        self.check_refused("\xff" * 2000, [0], -2)

    def test_the_longest_block(self):
        words = ("abcd efgh abcd efgh abcd efgh\n" + "ijkl mnop ijkl mnop ijkl mnop\n") * 3
        self.assertEqual(len(words), 180)
        self.check_patches(words, 144)


class EachByte(CallCase):
    """Texts that are one byte away from a right one or a wrong one, against the second way."""

    right = "a/b z\\c\nabca a\n"
    wrong = "a/b Zz\\c\nabca a\n"

    def check_counts(self, words):
        for count in range(6, 11):
            self.check_model(words, start_table(count))

    def test_the_two_texts(self):
        self.check_right(self.right, start_table(8), 8)
        self.check_refused(self.wrong, start_table(8), -6)

    def test_each_byte_in_each_place(self):
        for base in (self.right, self.wrong):
            for place in range(len(base)):
                for byte in range(256):
                    self.check_model(base[:place] + chr(byte) + base[place + 1:], start_table(8))

    def test_a_byte_more_at_each_place(self):
        for base in (self.right, self.wrong):
            for place in range(len(base) + 1):
                for sign in " \n/\\aZ@[`{\x00\xff":
                    self.check_counts(base[:place] + sign + base[place:])

    def test_a_byte_fewer_at_each_place(self):
        for base in (self.right, self.wrong):
            for place in range(len(base)):
                self.check_counts(base[:place] + base[place + 1:])


if __name__ == "__main__":
    unittest.main()
