"""The promises C1 to C5, over the calls together, for all right tables of small tops."""

import itertools
import unittest

from model import (SMALL_TOPS, CallCase, bytes_of, fits, model_answer, model_rows, model_seams, model_straight,
                   right_tables, two_by_two)
from patchtable.hall import can, judge, left, may, next_of, pairs, sew


class Promises(CallCase):
    def all_tables(self):
        for words in SMALL_TOPS:
            for table in right_tables(words):
                yield words, bytes_of(words), list(table)

    def test_c1_sewn_it_is_a_right_table_with_a_piece_fewer(self):
        for words, text, table in self.all_tables():
            count = left(text, table)[1]
            for i, j in two_by_two(pairs(text, table)):
                sewn = sew(i, j, text, table)
                self.assertEqual(sewn[0], 0, (words, table, i, j))
                self.assertEqual(judge(text, sewn[1:]), [0], (words, table, i, j))
                self.assertEqual(left(text, sewn[1:]), [0, count - 1], (words, table, i, j))

    def test_c1_only_what_may_be_sewn_is_sewn(self):
        for words, text, table in self.all_tables():
            told = two_by_two(pairs(text, table))
            for i, j in itertools.combinations(sorted(set(table)), 2):
                self.assertEqual(sew(i, j, text, table)[0], 0 if (i, j) in told else -5, (words, table, i, j))

    def test_c2_the_line_is_the_only_one_and_parts_what_they_become(self):
        for words, text, table in self.all_tables():
            pieces = model_answer(words, table)[1]
            rows = model_rows(words)
            for i, j in two_by_two(pairs(text, table)):
                direction, more = may(i, j, text, table)[2:]
                where = (words, table, i, j)
                self.assertEqual(model_seams(words, pieces, i, j), [(direction, more - 64)], where)
                # Just one of the two lies before the line, all of it, and the other behind it.
                self.assertEqual([fits(len(rows[0]), len(rows), pieces[one], pieces[other], direction, more - 64)
                                  for one, other in ((i, j), (j, i))].count(True), 1, where)

    def test_c3_it_can_be_finished_just_if_it_can_be_sewn_by_straight_seams(self):
        for words, text, table in self.all_tables():
            self.assertEqual(can(text, table), [0, 1 if model_straight(words, table) else 0], (words, table))

    def test_c4_there_is_always_a_next_pair_where_it_can_be_finished_and_is_not(self):
        for words, text, table in self.all_tables():
            answer = next_of(text, table)
            if can(text, table) == [0, 1] and left(text, table) != [0, 1]:
                self.assertEqual((answer[0], len(answer)), (0, 3), (words, table))
                self.assertIn(tuple(answer[1:]), two_by_two(pairs(text, table)), (words, table))
                self.assertEqual(can(text, sew(answer[1], answer[2], text, table)[1:]), [0, 1], (words, table))
            else:
                self.assertEqual(answer, [-5], (words, table))

    def test_c5_what_can_not_be_finished_stays_so(self):
        for words, text, table in self.all_tables():
            if can(text, table) == [0, 0]:
                for i, j in two_by_two(pairs(text, table)):
                    sewn = sew(i, j, text, table)[1:]
                    self.assertEqual(can(text, sewn), [0, 0], (words, table, i, j))
                    self.assertEqual(next_of(text, sewn), [-5], (words, table, i, j))

    def test_whatever_has_been_sewn_by_the_pairs_told_next_it_is_finished(self):
        for words, text, table in self.all_tables():
            answer = next_of(text, table)
            steps = 0
            while answer[0] == 0:
                table = sew(answer[1], answer[2], text, table)[1:]
                answer = next_of(text, table)
                steps += 1
            if steps:
                self.assertEqual(left(text, table), [0, 1], words)


if __name__ == "__main__":
    unittest.main()
