"""The calls of the table: each takes a top, told by a block's text, and a table of its patches."""

TOO_LONG = -2
AT_FAULT = -6
NOT_RIGHT = -9
NO_PIECE = -4
NOT_SEWN = -5

MOST_BYTES = 1024
MOST_SQUARES = 6

ROW_END = 10
BLANK = 32
SLASH = 47
BACKSLASH = 92

# Which square lies beyond a square's upper, right, lower and left side.
STEP_ACROSS = (0, 1, 0, -1)
STEP_DOWN = (-1, 0, 1, 0)

# Of upright, level, falling and rising lines, the direction that lies at right angles.
CROSSWISE = (1, 0, 3, 2)
# An at may be below 0; it is told with this more.
AT_MORE = 64


def judge(text, table):
    """Answer 0 if the table is a right one of the top, else the refusal."""
    return [verdict(text, table)]


def left(text, table):
    """Answer 0 and how many pieces there are, or the refusal."""
    answer = verdict(text, table)
    if answer < 0:
        return [answer]
    return [answer, count_pieces(table)]


def may(i, j, text, table):
    """Answer 0, 1 and the line along which pieces i and j may be sewn, or 0, 0, or the refusal."""
    answer = verdict_on_two(i, j, text, table)
    if answer < 0:
        return [answer]
    seam = find_seam(i, j, text, table)
    if seam is None:
        return [answer, 0]
    return [answer, 1, seam[0], seam[1] + AT_MORE]


def sew(i, j, text, table):
    """Answer 0 and the table when pieces i and j are sewn, or the refusal."""
    answer = verdict_on_two(i, j, text, table)
    if answer < 0:
        return [answer]
    if find_seam(i, j, text, table) is None:
        return [NOT_SEWN]
    return [answer] + join_pieces(i, j, table)


def pairs(text, table):
    """Answer 0 and all pairs that may be sewn, one behind the other, or the refusal."""
    answer = verdict(text, table)
    if answer < 0:
        return [answer]
    found = [answer]
    for two in find_pairs(text, table):
        found.extend(two)
    return found


def can(text, table):
    """Answer 0, then 1 if it can be finished, else 0; or the refusal."""
    answer = verdict(text, table)
    if answer < 0:
        return [answer]
    return [answer, 1 if can_be_finished(text, table) else 0]


def next_of(text, table):
    """Answer 0 and the first pair that may be sewn and leaves it so that it can be finished, or the refusal."""
    answer = verdict(text, table)
    if answer < 0:
        return [answer]
    # What can't be finished stays so, whatever pair is sewn: none need be tried.
    if can_be_finished(text, table):
        for two in find_pairs(text, table):
            if can_be_finished(text, join_pieces(two[0], two[1], table)):
                return [answer, two[0], two[1]]
    return [NOT_SEWN]


def verdict(text, table):
    """Give the first refusal that holds of those that all calls have, or 0."""
    # The length is asked first: a text that is too long is at fault as well.
    if len(text) > MOST_BYTES:
        return TOO_LONG
    rows = read_rows(text)
    if rows is None:
        return AT_FAULT
    if not is_right(table, quarter_patches(rows), len(rows[0])):
        return NOT_RIGHT
    return 0


def verdict_on_two(i, j, text, table):
    """Give the first refusal that holds of a call that names two pieces, or 0."""
    answer = verdict(text, table)
    if answer == 0 and not (is_piece(i, table) and is_piece(j, table)):
        return NO_PIECE
    return answer


def read_rows(text):
    """Read a block's text as rows of squares, or give None if it is at fault."""
    lines = split_at(text, ROW_END)
    # A row's end stands behind the last row too, so nothing may follow the last one.
    if lines[-1] != []:
        return None
    rows = [read_row(line) for line in lines[:-1]]
    if len(rows) < 1 or len(rows) > MOST_SQUARES:
        return None
    for row in rows:
        if row is None or len(row) != len(rows[0]):
            return None
    return rows


def read_row(line):
    """Read a row's squares, or give None if one is wrong or there are too many."""
    squares = [read_square(part) for part in split_at(line, BLANK)]
    if None in squares or len(squares) > MOST_SQUARES:
        return None
    return squares


def read_square(part):
    """Read a square as its quarters' letters (upper, right, lower, left), or give None."""
    if len(part) == 1:
        quarters = part * 4
    elif len(part) == 3 and part[1] == SLASH:
        quarters = [part[0], part[2], part[2], part[0]]
    elif len(part) == 3 and part[1] == BACKSLASH:
        quarters = [part[0], part[0], part[2], part[2]]
    elif len(part) == 4:
        quarters = part
    else:
        return None
    if not all([is_letter(byte) for byte in quarters]):
        return None
    return quarters


def is_letter(byte):
    """Tell whether a byte is A to Z or a to z."""
    return 65 <= byte <= 90 or 97 <= byte <= 122


def split_at(line, mark):
    """Cut a row of bytes at each mark; the marks fall away, and parts may be empty."""
    parts = [[]]
    for byte in line:
        if byte == mark:
            parts.append([])
        else:
            parts[-1].append(byte)
    return parts


def quarter_letters(rows):
    """Give the letters of all quarters, in the quarters' order."""
    letters = []
    for row in rows:
        for square in row:
            letters.extend(square)
    return letters


def quarter_patches(rows):
    """Give the patches of all quarters, in the quarters' order."""
    return number_groups(quarter_letters(rows), len(rows[0]))


def quarters_beside(quarter, wide, high):
    """Give the quarters that share a side with a quarter."""
    square = quarter // 4
    side = quarter % 4
    found = [4 * square + (side + 1) % 4, 4 * square + (side + 3) % 4]
    x = square % wide + STEP_ACROSS[side]
    y = square // wide + STEP_DOWN[side]
    if 0 <= x < wide and 0 <= y < high:
        # Beyond a square's side lies the opposite quarter of the square there.
        found.append(4 * (y * wide + x) + (side + 2) % 4)
    return found


def quarters_reached(start, marks, wide):
    """Give the quarters that ways lead to from one, side by side, over quarters of its mark."""
    high = len(marks) // (4 * wide)
    found = [start]
    seen = {start: True}
    done = 0
    while done < len(found):
        for other in quarters_beside(found[done], wide, high):
            if marks[other] == marks[start] and other not in seen:
                seen[other] = True
                found.append(other)
        done += 1
    return found


def number_groups(marks, wide):
    """Number what hangs together of one mark, as it comes first; give each quarter's number."""
    numbers = {}
    count = 0
    for start in range(len(marks)):
        if start not in numbers:
            for quarter in quarters_reached(start, marks, wide):
                numbers[quarter] = count
            count += 1
    return [numbers[quarter] for quarter in range(len(marks))]


def is_right(table, patches, wide):
    """Tell whether a table is a right one of a top, told by its quarters' patches."""
    if len(table) != max(patches) + 1 or not tells_least(table):
        return False
    pieces = [table[patch] for patch in patches]
    # A piece that doesn't hang together falls into several groups.
    return max(number_groups(pieces, wide)) + 1 == count_pieces(table)


def tells_least(table):
    """Tell whether each patch is told the least patch of its piece."""
    for patch in range(len(table)):
        piece = table[patch]
        # No patch beyond this one is looked up, so numbers that are no patch are safe.
        if piece > patch or table[piece] != piece:
            return False
    return True


def count_pieces(table):
    """Count the pieces of a table: each has one patch that is told itself, its least."""
    return len([patch for patch in range(len(table)) if table[patch] == patch])


def is_piece(number, table):
    """Tell whether a number is a piece of a right table: a patch that is told itself."""
    return number < len(table) and table[number] == number


def join_pieces(i, j, table):
    """Give another table, in which two pieces are one."""
    lesser = min(i, j)
    greater = max(i, j)
    return [lesser if piece == greater else piece for piece in table]


def quarter_pieces(rows, table):
    """Give the pieces of all quarters, in the quarters' order."""
    return [table[patch] for patch in quarter_patches(rows)]


def find_seam(i, j, text, table):
    """Give the line along which two pieces of a right table may be sewn (direction, at), or None."""
    rows = read_rows(text)
    wide = len(rows[0])
    pieces = quarter_pieces(rows, table)
    return seam_between(i, j, pieces, piece_spans(pieces, wide), wide)


def find_pairs(text, table):
    """Give all pairs of pieces of a right table that may be sewn, the lesser first, in order."""
    rows = read_rows(text)
    wide = len(rows[0])
    pieces = quarter_pieces(rows, table)
    spans = piece_spans(pieces, wide)
    # Pieces that don't lie beside one another have no side in common.
    return [two for two in pairs_beside(pieces, wide)
            if seam_between(two[0], two[1], pieces, spans, wide) is not None]


def pairs_beside(pieces, wide):
    """Give all pairs of pieces that lie beside one another, the lesser first, in order."""
    high = len(pieces) // (4 * wide)
    found = {}
    for quarter in range(len(pieces)):
        for other in quarters_beside(quarter, wide, high):
            if pieces[quarter] < pieces[other]:
                found[(pieces[quarter], pieces[other])] = True
    return sorted(found)


def can_be_finished(text, table):
    """Tell whether some sewing of a right table, pair by pair, comes to one piece.

    The last seam goes straight through the whole top, the ones ahead of it straight through what
    it joins, and so on: it can be finished just if lines part the top, and again each part, until
    each is one piece. Any line that parts some pieces will do: the lines of another way still part
    what lies on either side of it.
    """
    rows = read_rows(text)
    spans = piece_spans(quarter_pieces(rows, table), len(rows[0]))
    parts = [list(spans[0])]
    while len(parts) > 0:
        part = parts.pop()
        if len(part) > 1:
            two = part_in_two(part, spans)
            if two is None:
                return False
            parts.extend(two)
    return True


def part_in_two(part, spans):
    """Part some pieces by a line that cuts none: give those before and those behind it, or None."""
    for reaches in spans:
        firsts = [reaches[piece][0] for piece in part]
        # Only between the least first and the greatest are there pieces on both sides.
        for at in range(min(firsts) + 1, max(firsts) + 1):
            before = [piece for piece in part if reaches[piece][1] < at]
            behind = [piece for piece in part if reaches[piece][0] >= at]
            if len(before) + len(behind) == len(part):
                return (before, behind)
    return None


def stripe_of(quarter, direction, wide):
    """Give the at of the last line of a direction that a quarter lies behind.

    So a quarter lies before a line just if its stripe is below the line's at.
    """
    square = quarter // 4
    side = quarter % 4
    # A point inside the quarter, in fourths of a square: halfway from the middle to the square's side.
    x = 4 * (square % wide) + 2 + STEP_ACROSS[side]
    y = 4 * (square // wide) + 2 + STEP_DOWN[side]
    return (x, y, x - y, x + y)[direction] // 4


def piece_spans(pieces, wide):
    """Give, direction by direction, of each piece the least and the greatest of its quarters' stripes."""
    return [spans_across(direction, pieces, wide) for direction in range(len(CROSSWISE))]


def spans_across(direction, pieces, wide):
    """Give of each piece the least and the greatest of its quarters' stripes of one direction."""
    spans = {}
    for quarter in range(len(pieces)):
        stripe = stripe_of(quarter, direction, wide)
        span = spans.get(pieces[quarter], (stripe, stripe))
        spans[pieces[quarter]] = (min(span[0], stripe), max(span[1], stripe))
    return spans


def seam_between(i, j, pieces, spans, wide):
    """Give the line along which two pieces may be sewn (direction, at), or None.

    It is one that the one piece ends at and the other begins at: on any other line that has the
    two before and behind it, one of them has no side. A piece never ends where it begins itself,
    so the same piece twice has none.
    """
    for direction in range(len(spans)):
        for two in ((i, j), (j, i)):
            at = spans[direction][two[1]][0]
            if spans[direction][two[0]][1] + 1 == at and is_seam(two, pieces, direction, at, wide):
                return (direction, at)
    return None


def is_seam(two, pieces, direction, at, wide):
    """Tell whether a piece before a line and one behind it have just the same sides on it, in one stretch."""
    places = []
    for side in sides_on(direction, at, len(pieces), wide):
        of_first = pieces[side[0]] == two[0]
        of_second = pieces[side[1]] == two[1]
        if of_first != of_second:
            return False
        if of_first:
            # Sides that follow one another along a line lie in neighbouring stripes across it.
            places.append(stripe_of(side[0], CROSSWISE[direction], wide))
    return len(places) > 0 and max(places) - min(places) + 1 == len(places)


def sides_on(direction, at, count, wide):
    """Give a line's sides, each as the quarter before the line and the one behind it."""
    high = count // (4 * wide)
    sides = []
    for quarter in range(count):
        for other in quarters_beside(quarter, wide, high):
            if stripe_of(quarter, direction, wide) < at <= stripe_of(other, direction, wide):
                sides.append((quarter, other))
    return sides
