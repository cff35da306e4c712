"""What the tests share: texts as lists of bytes, the checks, and a second way to the answers.

The second way draws each quarter as a triangle and finds what lies side by side, and what lies
on a line, from the triangles' own corners and sides, and reads texts by a pattern; it shares
nothing with the program.
"""

import functools
import re
import unittest

from patchtable.hall import judge, left, may, sew

SQUARE = r"[A-Za-z](?:[/\\][A-Za-z]|[A-Za-z]{3})?"
ROW = re.compile(SQUARE + "(?: " + SQUARE + "){0,5}")


def bytes_of(words):
    return list(words.encode("latin-1"))


def start_table(count):
    return list(range(count))


class CallCase(unittest.TestCase):
    def check_right(self, words, table, pieces):
        self.assertEqual(judge(bytes_of(words), list(table)), [0], (words, table))
        self.assertEqual(left(bytes_of(words), list(table)), [0, pieces], (words, table))

    def check_refused(self, words, table, number):
        """What all calls refuse, they refuse alike, whatever else is handed in."""
        self.assertEqual(judge(bytes_of(words), list(table)), [number], (words, table))
        self.assertEqual(left(bytes_of(words), list(table)), [number], (words, table))
        self.assertEqual(may(0, 1, bytes_of(words), list(table)), [number], (words, table))
        self.assertEqual(sew(0, 1, bytes_of(words), list(table)), [number], (words, table))

    def check_patches(self, words, count):
        """The beginning's table fits just one number of patches."""
        self.check_right(words, start_table(count), count)
        self.check_refused(words, start_table(count - 1), -9)
        self.check_refused(words, start_table(count + 1), -9)

    def check_model(self, words, table):
        number, pieces = model_answer(words, table)
        if number == 0:
            self.check_right(words, table, len(pieces))
        else:
            self.check_refused(words, table, number)

    def check_sewn(self, words, table, i, j, direction, at):
        """Pieces i and j may be sewn along that line, and sewn they are one, told by the lesser."""
        sewn = [min(i, j) if piece == max(i, j) else piece for piece in table]
        for one, other in ((i, j), (j, i)):
            where = (words, table, one, other)
            self.assertEqual(may(one, other, bytes_of(words), list(table)), [0, 1, direction, at + 64], where)
            self.assertEqual(sew(one, other, bytes_of(words), list(table)), [0] + sewn, where)
        self.check_right(words, table, len(set(table)))
        self.check_right(words, sewn, len(set(table)) - 1)

    def check_not_sewn(self, words, table, i, j):
        self.check_right(words, table, len(set(table)))
        for one, other in ((i, j), (j, i)):
            where = (words, table, one, other)
            self.assertEqual(may(one, other, bytes_of(words), list(table)), [0, 0], where)
            self.assertEqual(sew(one, other, bytes_of(words), list(table)), [-5], where)

    def check_no_piece(self, words, table, i, j):
        for one, other in ((i, j), (j, i)):
            where = (words, table, one, other)
            self.assertEqual(may(one, other, bytes_of(words), list(table)), [-4], where)
            self.assertEqual(sew(one, other, bytes_of(words), list(table)), [-4], where)

    def check_two_model(self, words, table, i, j):
        number, pieces = model_answer(words, table)
        self.assertEqual(number, 0, (words, table))
        if i not in pieces or j not in pieces:
            self.check_no_piece(words, table, i, j)
            return
        lines = model_seams(words, pieces, i, j)
        self.assertLessEqual(len(lines), 1, (words, table, i, j))
        if lines:
            self.check_sewn(words, table, i, j, *lines[0])
        else:
            self.check_not_sewn(words, table, i, j)


def model_answer(words, table):
    """The first refusal that holds and None, or 0 and the quarters of each piece."""
    if len(words) > 1024:
        return -2, None
    rows = model_rows(words)
    if rows is None:
        return -6, None
    sides = side_owners(len(rows[0]), len(rows))
    patches = model_patches(words)
    if len(table) != len(patches):
        return -9, None
    pieces = {}
    for patch, piece in enumerate(table):
        pieces.setdefault(piece, []).append(patch)
    for piece, members in pieces.items():
        quarters = set().union(*[patches[patch] for patch in members])
        if piece != min(members) or hanging(min(quarters), quarters, sides) != quarters:
            return -9, None
        pieces[piece] = quarters
    return 0, pieces


@functools.lru_cache(maxsize=None)
def model_patches(words):
    rows = model_rows(words)
    sides = side_owners(len(rows[0]), len(rows))
    letters = dict(enumerate("".join("".join(row) for row in rows)))
    patches = []
    for quarter in sorted(letters):
        if not any(quarter in patch for patch in patches):
            patches.append(hanging(quarter, {q for q in letters if letters[q] == letters[quarter]}, sides))
    return patches


def model_seams(words, pieces, i, j):
    """All lines along which two pieces may be sewn, each as its direction and its at."""
    rows = model_rows(words)
    wide, high = len(rows[0]), len(rows)
    return [(direction, at) for direction in range(4) for at in range(-high - 1, wide + high + 2)
            if i != j and (fits(wide, high, pieces[i], pieces[j], direction, at)
                           or fits(wide, high, pieces[j], pieces[i], direction, at))]


def fits(wide, high, first, second, direction, at):
    """Whether the first lies before the line, the second behind it, with the same sides in one stretch."""
    def off(corner):
        x, y = corner
        return (x, y, x - y, x + y)[direction] - 2 * at

    sides = side_owners(wide, high)
    if any(off(corner) > 0 for corner in corners_of(first, sides)):
        return False
    if any(off(corner) < 0 for corner in corners_of(second, sides)):
        return False
    # Of a side on the top's edge nothing lies beyond.
    inner = [side for side, owners in sides.items() if len(owners) == 2 and all(off(corner) == 0 for corner in side)]
    of_first = {side for side in inner if sides[side] & first}
    of_second = {side for side in inner if sides[side] & second}
    return of_first == of_second and len(of_first) > 0 and is_stretch(of_first)


def corners_of(quarters, sides):
    return {corner for side, owners in sides.items() if owners & quarters for corner in side}


def is_stretch(sides):
    """In one stretch of a line all ends of its sides but two are ends of two sides."""
    ends = [corner for side in sides for corner in side]
    return len([corner for corner in ends if ends.count(corner) == 1]) == 2


def model_rows(words):
    if not words.endswith("\n"):
        return None
    lines = words[:-1].split("\n")
    if len(lines) > 6 or not all(ROW.fullmatch(line) for line in lines):
        return None
    rows = [[model_square(square) for square in line.split(" ")] for line in lines]
    return rows if len({len(row) for row in rows}) == 1 else None


def model_square(square):
    if "/" in square:
        a, b = square.split("/")
        return a + b + b + a
    if "\\" in square:
        a, b = square.split("\\")
        return a + a + b + b
    return square * 4 if len(square) == 1 else square


@functools.lru_cache(maxsize=None)
def side_owners(wide, high):
    """Of each side of a triangle, the quarters that have it."""
    owners = {}
    for y in range(high):
        for x in range(wide):
            middle = (2 * x + 1, 2 * y + 1)
            corners = [(2 * x, 2 * y), (2 * x + 2, 2 * y), (2 * x + 2, 2 * y + 2), (2 * x, 2 * y + 2)]
            for d in range(4):
                a, b = corners[d], corners[(d + 1) % 4]
                for side in ({a, b}, {a, middle}, {b, middle}):
                    owners.setdefault(frozenset(side), set()).add(4 * (y * wide + x) + d)
    return owners


def hanging(start, quarters, sides):
    """The quarters that hang together with one, grown until nothing more comes in."""
    found = {start}
    grown = True
    while grown:
        grown = False
        for owners in sides.values():
            both = owners & quarters
            if both & found and not both <= found:
                found |= both
                grown = True
    return found


def set_tables(count):
    """All tables of that many patches in which each is told the least of its piece."""
    tables = [[]]
    for patch in range(count):
        tables = [table + [piece] for table in tables for piece in sorted(set(table)) + [patch]]
    return tables
