"""What the tests share: texts as lists of bytes, the two checks, and a second way to the answers.

The second way draws each quarter as a triangle and finds what lies side by side from the
triangles' own sides, and reads texts by a pattern; it shares nothing with the program.
"""

import re
import unittest

from patchtable.hall import judge, left

SQUARE = r"[A-Za-z](?:[/\\][A-Za-z]|[A-Za-z]{3})?"
ROW = re.compile(SQUARE + "(?: " + SQUARE + "){0,5}")


def bytes_of(words):
    return list(words.encode("latin-1"))


def start_table(count):
    return list(range(count))


class CallCase(unittest.TestCase):
    def check_right(self, words, table, pieces):
        self.assertEqual(judge(bytes_of(words), list(table)), [0], (words, table))
        self.assertEqual(left(bytes_of(words), list(table)), [0, pieces], (words, table))

    def check_refused(self, words, table, number):
        self.assertEqual(judge(bytes_of(words), list(table)), [number], (words, table))
        self.assertEqual(left(bytes_of(words), list(table)), [number], (words, table))

    def check_patches(self, words, count):
        """The beginning's table fits just one number of patches."""
        self.check_right(words, start_table(count), count)
        self.check_refused(words, start_table(count - 1), -9)
        self.check_refused(words, start_table(count + 1), -9)

    def check_model(self, words, table):
        number, pieces = model_answer(words, table)
        if number == 0:
            self.check_right(words, table, pieces)
        else:
            self.check_refused(words, table, number)


def model_answer(words, table):
    if len(words) > 1024:
        return -2, None
    rows = model_rows(words)
    if rows is None:
        return -6, None
    sides = side_owners(len(rows[0]), len(rows))
    letters = dict(enumerate("".join("".join(row) for row in rows)))
    patches = []
    for quarter in sorted(letters):
        if not any(quarter in patch for patch in patches):
            patches.append(hanging(quarter, {q for q in letters if letters[q] == letters[quarter]}, sides))
    if len(table) != len(patches):
        return -9, None
    pieces = {}
    for patch, piece in enumerate(table):
        pieces.setdefault(piece, []).append(patch)
    for piece, members in pieces.items():
        quarters = set().union(*[patches[patch] for patch in members])
        if piece != min(members) or hanging(min(quarters), quarters, sides) != quarters:
            return -9, None
    return 0, len(pieces)


def model_rows(words):
    if not words.endswith("\n"):
        return None
    lines = words[:-1].split("\n")
    if len(lines) > 6 or not all(ROW.fullmatch(line) for line in lines):
        return None
    rows = [[model_square(square) for square in line.split(" ")] for line in lines]
    return rows if len({len(row) for row in rows}) == 1 else None


def model_square(square):
    if "/" in square:
        a, b = square.split("/")
        return a + b + b + a
    if "\\" in square:
        a, b = square.split("\\")
        return a + a + b + b
    return square * 4 if len(square) == 1 else square


def side_owners(wide, high):
    """Of each side of a triangle, the quarters that have it."""
    owners = {}
    for y in range(high):
        for x in range(wide):
            middle = (2 * x + 1, 2 * y + 1)
            corners = [(2 * x, 2 * y), (2 * x + 2, 2 * y), (2 * x + 2, 2 * y + 2), (2 * x, 2 * y + 2)]
            for d in range(4):
                a, b = corners[d], corners[(d + 1) % 4]
                for side in ({a, b}, {a, middle}, {b, middle}):
                    owners.setdefault(frozenset(side), set()).add(4 * (y * wide + x) + d)
    return owners


def hanging(start, quarters, sides):
    """The quarters that hang together with one, grown until nothing more comes in."""
    found = {start}
    grown = True
    while grown:
        grown = False
        for owners in sides.values():
            both = owners & quarters
            if both & found and not both <= found:
                found |= both
                grown = True
    return found


def set_tables(count):
    """All tables of that many patches in which each is told the least of its piece."""
    tables = [[]]
    for patch in range(count):
        tables = [table + [piece] for table in tables for piece in sorted(set(table)) + [patch]]
    return tables
