"""What the tests share: texts as lists of bytes, the checks, and a second way to the answers.

The second way draws each quarter as a triangle and finds what lies side by side, and what lies
on a line, from the triangles' own corners and sides, and reads texts by a pattern; it shares
nothing with the program.
"""

import functools
import itertools
import re
import unittest

from patchtable.hall import can, judge, left, may, next_of, pairs, sew

NINE = "a b c\nd e f\ng h i\n"
# All quarters of the largest top are patches by themselves: patch and quarter are the same.
ALL_APART = "abcd efgh abcd efgh abcd efgh\nijkl mnop ijkl mnop ijkl mnop\n" * 3
# Of these all right tables are gone through.
SMALL_TOPS = ("a\n", "a/b\n", "a\\b\n", "abcd\n", "aaab\n", "abab\n", "a b\n", "a\nb\n", "a b c\nd e f\n",
              "a b\nc d\ne f\n", "abcd e/f\n", "abcd\ne\\f\n", "abcd efgh\n", "a/b c\\d\ne f\n", "a\\b c\nd e\\f\n",
              "a b/c\nd/e f\n", "a b a b a b\n", "a b b\na c d\n", "a a b b\na c d b\na a b b\n", "aacb a\nb\\a c\n",
              "a\\b a a\nb c\\d a\nb b a\\b\n", "a a b\nc d b\nc e e\n", "a\\b c/d\ne/f g\\h\n", "x x a\nb/a a a\n",
              NINE)

SQUARE = r"[A-Za-z](?:[/\\][A-Za-z]|[A-Za-z]{3})?"
ROW = re.compile(SQUARE + "(?: " + SQUARE + "){0,5}")


def bytes_of(words):
    return list(words.encode("latin-1"))


def start_table(count):
    return list(range(count))


class CallCase(unittest.TestCase):
    def check_right(self, words, table, pieces):
        self.assertEqual(judge(bytes_of(words), list(table)), [0], (words, table))
        self.assertEqual(left(bytes_of(words), list(table)), [0, pieces], (words, table))

    def check_refused(self, words, table, number):
        """What all calls refuse, they refuse alike, whatever else is handed in."""
        self.assertEqual(judge(bytes_of(words), list(table)), [number], (words, table))
        self.assertEqual(left(bytes_of(words), list(table)), [number], (words, table))
        self.assertEqual(may(0, 1, bytes_of(words), list(table)), [number], (words, table))
        self.assertEqual(sew(0, 1, bytes_of(words), list(table)), [number], (words, table))
        self.assertEqual(pairs(bytes_of(words), list(table)), [number], (words, table))
        self.assertEqual(can(bytes_of(words), list(table)), [number], (words, table))
        self.assertEqual(next_of(bytes_of(words), list(table)), [number], (words, table))

    def check_patches(self, words, count):
        """The beginning's table fits just one number of patches."""
        self.check_right(words, start_table(count), count)
        self.check_refused(words, start_table(count - 1), -9)
        self.check_refused(words, start_table(count + 1), -9)

    def check_model(self, words, table):
        number, pieces = model_answer(words, table)
        if number == 0:
            self.check_right(words, table, len(pieces))
        else:
            self.check_refused(words, table, number)

    def check_sewn(self, words, table, i, j, direction, at):
        """Pieces i and j may be sewn along that line, and sewn they are one, told by the lesser."""
        sewn = joined(table, i, j)
        for one, other in ((i, j), (j, i)):
            where = (words, table, one, other)
            self.assertEqual(may(one, other, bytes_of(words), list(table)), [0, 1, direction, at + 64], where)
            self.assertEqual(sew(one, other, bytes_of(words), list(table)), [0] + sewn, where)
        self.check_right(words, table, len(set(table)))
        self.check_right(words, sewn, len(set(table)) - 1)

    def check_not_sewn(self, words, table, i, j):
        self.check_right(words, table, len(set(table)))
        for one, other in ((i, j), (j, i)):
            where = (words, table, one, other)
            self.assertEqual(may(one, other, bytes_of(words), list(table)), [0, 0], where)
            self.assertEqual(sew(one, other, bytes_of(words), list(table)), [-5], where)

    def check_no_piece(self, words, table, i, j):
        for one, other in ((i, j), (j, i)):
            where = (words, table, one, other)
            self.assertEqual(may(one, other, bytes_of(words), list(table)), [-4], where)
            self.assertEqual(sew(one, other, bytes_of(words), list(table)), [-4], where)

    def check_two_model(self, words, table, i, j):
        number, pieces = model_answer(words, table)
        self.assertEqual(number, 0, (words, table))
        if i not in pieces or j not in pieces:
            self.check_no_piece(words, table, i, j)
            return
        lines = model_seams(words, pieces, i, j)
        self.assertLessEqual(len(lines), 1, (words, table, i, j))
        if lines:
            self.check_sewn(words, table, i, j, *lines[0])
        else:
            self.check_not_sewn(words, table, i, j)

    def check_pairs(self, words, table, *told):
        """Just these pairs are told, in this order."""
        flat = [piece for two in told for piece in two]
        self.assertEqual(pairs(bytes_of(words), list(table)), [0] + flat, (words, table))

    def check_can(self, words, table, number):
        self.assertEqual(can(bytes_of(words), list(table)), [0, number], (words, table))

    def check_next(self, words, table, i, j):
        self.assertEqual(next_of(bytes_of(words), list(table)), [0, i, j], (words, table))

    def check_no_next(self, words, table):
        self.assertEqual(next_of(bytes_of(words), list(table)), [-5], (words, table))


def two_by_two(answer):
    """The pairs behind the 0, each as a tuple."""
    return list(zip(answer[1::2], answer[2::2], strict=True))


def joined(table, i, j):
    """The table when two pieces are one."""
    return [min(i, j) if piece == max(i, j) else piece for piece in table]


def model_answer(words, table):
    """The first refusal that holds and None, or 0 and the quarters of each piece."""
    if len(words) > 1024:
        return -2, None
    rows = model_rows(words)
    if rows is None:
        return -6, None
    sides = side_owners(len(rows[0]), len(rows))
    patches = model_patches(words)
    if len(table) != len(patches):
        return -9, None
    pieces = {}
    for patch, piece in enumerate(table):
        pieces.setdefault(piece, []).append(patch)
    for piece, members in pieces.items():
        quarters = frozenset().union(*[patches[patch] for patch in members])
        if piece != min(members) or hanging(min(quarters), quarters, sides) != quarters:
            return -9, None
        pieces[piece] = quarters
    return 0, pieces


@functools.lru_cache(maxsize=None)
def model_patches(words):
    rows = model_rows(words)
    sides = side_owners(len(rows[0]), len(rows))
    letters = dict(enumerate("".join("".join(row) for row in rows)))
    patches = []
    for quarter in sorted(letters):
        if not any(quarter in patch for patch in patches):
            patches.append(hanging(quarter, {q for q in letters if letters[q] == letters[quarter]}, sides))
    return patches


def model_seams(words, pieces, i, j):
    """All lines along which two pieces may be sewn, each as its direction and its at."""
    rows = model_rows(words)
    return lines_between(len(rows[0]), len(rows), pieces[i], pieces[j])


@functools.lru_cache(maxsize=None)
def lines_between(wide, high, one, other):
    return [(direction, at) for direction, at in all_lines(wide, high)
            if one != other and (fits(wide, high, one, other, direction, at)
                                 or fits(wide, high, other, one, direction, at))]


def all_lines(wide, high):
    return itertools.product(range(4), range(-high - 1, wide + high + 2))


@functools.lru_cache(maxsize=None)
def right_tables(words):
    """All right tables of a top: whatever two pieces lie side by side, they are joined."""
    rows = model_rows(words)
    sides = side_owners(len(rows[0]), len(rows))
    patches = model_patches(words)
    owner = {quarter: patch for patch, quarters in enumerate(patches) for quarter in quarters}
    beside = [[owner[quarter] for quarter in owners] for owners in sides.values() if len(owners) == 2]
    tables = [tuple(start_table(len(patches)))]
    seen = set(tables)
    for table in tables:
        for a, b in beside:
            more = tuple(joined(table, table[a], table[b]))
            if more not in seen:
                seen.add(more)
                tables.append(more)
    return tables


@functools.lru_cache(maxsize=None)
def model_pairs(words, table):
    """All pairs of a right table that may be sewn, in order."""
    pieces = model_answer(words, table)[1]
    return [(i, j) for i, j in itertools.combinations(sorted(pieces), 2) if model_seams(words, pieces, i, j)]


@functools.lru_cache(maxsize=None)
def model_can(words, table):
    """Whether some sewing, pair by pair, comes to one piece: each one is gone through."""
    return len(set(table)) == 1 or any(model_can(words, tuple(joined(table, i, j)))
                                       for i, j in model_pairs(words, table))


def model_next(words, table):
    """The first pair that may be sewn and leaves it so that some sewing comes to one piece, or None."""
    good = [(i, j) for i, j in model_pairs(words, table) if model_can(words, tuple(joined(table, i, j)))]
    return good[0] if good else None


def model_straight(words, table):
    """Whether the top whose patches are the pieces can be sewn by straight seams."""
    rows = model_rows(words)
    return parts_straight(len(rows[0]), len(rows), frozenset(model_answer(words, table)[1].values()))


@functools.lru_cache(maxsize=None)
def parts_straight(wide, high, pieces):
    """Whether some line parts the pieces so that both sides can be parted on, each line being tried."""
    if len(pieces) == 1:
        return True
    for direction, at in all_lines(wide, high):
        offs = {piece: offs_of(piece, wide, high, direction, at) for piece in pieces}
        before = frozenset(piece for piece in pieces if max(offs[piece]) <= 0)
        behind = frozenset(piece for piece in pieces if min(offs[piece]) >= 0)
        if before and behind and before | behind == pieces:
            if parts_straight(wide, high, before) and parts_straight(wide, high, behind):
                return True
    return False


def off_line(corner, direction, at):
    """Below 0 before the line, 0 on it, above 0 behind it; corners are told in half squares."""
    x, y = corner
    return (x, y, x - y, x + y)[direction] - 2 * at


def fits(wide, high, first, second, direction, at):
    """Whether the first lies before the line, the second behind it, with the same sides in one stretch."""
    sides = side_owners(wide, high)
    if max(offs_of(first, wide, high, direction, at)) > 0 or min(offs_of(second, wide, high, direction, at)) < 0:
        return False
    # Of a side on the top's edge nothing lies beyond.
    inner = [side for side, owners in sides.items() if len(owners) == 2
             and all(off_line(corner, direction, at) == 0 for corner in side)]
    of_first = {side for side in inner if sides[side] & first}
    of_second = {side for side in inner if sides[side] & second}
    return of_first == of_second and len(of_first) > 0 and is_stretch(of_first)


@functools.lru_cache(maxsize=None)
def quarter_corners(wide, high):
    """Of each quarter, the corners of its triangle."""
    corners = {}
    for side, owners in side_owners(wide, high).items():
        for quarter in owners:
            corners.setdefault(quarter, set()).update(side)
    return corners


def offs_of(quarters, wide, high, direction, at):
    """How far off a line the corners of some quarters lie."""
    corners = quarter_corners(wide, high)
    return [off_line(corner, direction, at) for quarter in quarters for corner in corners[quarter]]


def is_stretch(sides):
    """In one stretch of a line all ends of its sides but two are ends of two sides."""
    ends = [corner for side in sides for corner in side]
    return len([corner for corner in ends if ends.count(corner) == 1]) == 2


def model_rows(words):
    if not words.endswith("\n"):
        return None
    lines = words[:-1].split("\n")
    if len(lines) > 6 or not all(ROW.fullmatch(line) for line in lines):
        return None
    rows = [[model_square(square) for square in line.split(" ")] for line in lines]
    return rows if len({len(row) for row in rows}) == 1 else None


def model_square(square):
    if "/" in square:
        a, b = square.split("/")
        return a + b + b + a
    if "\\" in square:
        a, b = square.split("\\")
        return a + a + b + b
    return square * 4 if len(square) == 1 else square


@functools.lru_cache(maxsize=None)
def side_owners(wide, high):
    """Of each side of a triangle, the quarters that have it."""
    owners = {}
    for y in range(high):
        for x in range(wide):
            middle = (2 * x + 1, 2 * y + 1)
            corners = [(2 * x, 2 * y), (2 * x + 2, 2 * y), (2 * x + 2, 2 * y + 2), (2 * x, 2 * y + 2)]
            for d in range(4):
                a, b = corners[d], corners[(d + 1) % 4]
                for side in ({a, b}, {a, middle}, {b, middle}):
                    owners.setdefault(frozenset(side), set()).add(4 * (y * wide + x) + d)
    return owners


def hanging(start, quarters, sides):
    """The quarters that hang together with one, grown until nothing more comes in."""
    found = {start}
    grown = True
    while grown:
        grown = False
        for owners in sides.values():
            both = owners & quarters
            if both & found and not both <= found:
                found |= both
                grown = True
    return found


def set_tables(count):
    """All tables of that many patches in which each is told the least of its piece."""
    tables = [[]]
    for patch in range(count):
        tables = [table + [piece] for table in tables for piece in sorted(set(table)) + [patch]]
    return tables


def part_largest(quarters, direction, at):
    """Those of the largest top's quarters that lie before a line, and those behind it, if there are any."""
    corners = quarter_corners(6, 6)
    behind = frozenset(quarter for quarter in quarters
                       if sum(off_line(corner, direction, at) for corner in corners[quarter]) > 0)
    return [half for half in (quarters - behind, behind) if half]


def cut_at_random(quarters, pick):
    """Cut by some straight lines, each through one of the parts."""
    parts = [quarters]
    for _ in range(60):
        part = parts.pop(pick.randrange(len(parts)))
        parts += part_largest(part, pick.randrange(4), pick.randrange(-5, 12))
    return parts


def cut_about(x, y):
    """Cut nine squares out of the largest top by straight lines; what else is left."""
    parts = [frozenset(range(144))]
    for direction, at in ((0, x), (0, x + 3), (1, y), (1, y + 3)):
        parts = [half for part in parts for half in part_largest(part, direction, at)]
    return [part for part in parts if 4 * (6 * y + x) not in part]


def table_of(parts):
    """The table in which the parts are the pieces; each quarter is a patch by itself."""
    table = [0] * 144
    for part in parts:
        for quarter in part:
            table[quarter] = min(part)
    return table


def about_the_middle(x, y):
    """Nine squares of the largest top as four pairs about a middle one."""
    pairs_of_squares = (((0, 0), (1, 0)), ((2, 0), (2, 1)), ((0, 1), (0, 2)), ((1, 2), (2, 2)), ((1, 1),))
    return [frozenset(4 * (6 * (y + down) + x + across) + side for across, down in squares for side in range(4))
            for squares in pairs_of_squares]
