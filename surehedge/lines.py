"""Lines: numbers told for each number from 0 on, by pieces (start, value, slope)."""

from surehedge.numbers import ZERO, compare, divided, minus, plus, times

MINUS_ONE = (-1, 1)


def straight(value, slope):
    """Returns the line with one piece that has this value at 0 and this slope."""
    return [(ZERO, value, slope)]


def is_line(pieces):
    """Tells whether the list of tuples of three numbers is a line."""
    if pieces == [] or pieces[0][0] != ZERO:
        return False
    for before, piece in zip(pieces, pieces[1:]):
        start, value, slope = piece
        if compare(start, before[0]) <= 0 or slope == before[2] or value != _told(before, start):
            return False
    return True


def _told(piece, x):
    """Returns the number that the piece, or its straight continuation, tells for x."""
    start, value, slope = piece
    return plus(value, times(slope, minus(x, start)))


def value_at(line, x):
    """Returns the number that the line tells for x, which is at least 0."""
    last = line[0]
    for piece in line:
        if compare(piece[0], x) <= 0:
            last = piece
    return _told(last, x)


def add_lines(line, other):
    """Returns the sum of the two lines."""
    return _joined([
        (one[0], plus(one[1], two[1]), plus(one[2], two[2]))
        for one, two in _side_by_side(line, other)
    ])


def scale_line(line, number):
    """Returns the line times the number."""
    return _joined([(start, times(value, number), times(slope, number)) for start, value, slope in line])


def greater_line(line, other):
    """Returns the line that tells the greater one of the numbers of the two lines."""
    rows = _side_by_side(line, other)
    ends = [one[0] for one, _ in rows[1:]] + [None]
    pieces = []
    for (one, two), end in zip(rows, ends):
        ahead, behind = (one, two) if _is_ahead(one, two) else (two, one)
        pieces.append(ahead)
        meeting = _meeting(ahead, behind)
        if meeting is not None and (end is None or compare(meeting, end) < 0):
            pieces.append(_from(behind, meeting))
    return _joined(pieces)


def lesser_line(line, other):
    """Returns the line that tells the lesser one of the numbers of the two lines."""
    opposite = greater_line(scale_line(line, MINUS_ONE), scale_line(other, MINUS_ONE))
    return scale_line(opposite, MINUS_ONE)


def first_slope(line):
    """Returns the slope of the first piece, and the start of the second piece or None."""
    return (line[0][2], line[1][0] if len(line) > 1 else None)


def _from(piece, start):
    """Returns the piece from this start on."""
    return (start, _told(piece, start), piece[2])


def _side_by_side(line, other):
    """Returns the pairs of pieces of the two lines that tell their numbers from each start of either one on."""
    starts = _starts(line, other)
    return list(zip(_cut(line, starts), _cut(other, starts)))


def _starts(line, other):
    """Returns the starts of the two lines, ascending, each one once."""
    left = [piece[0] for piece in other]
    found = []
    for start, _, _ in line:
        while left and compare(left[0], start) < 0:
            found.append(left.pop(0))
        if left and left[0] == start:
            left.pop(0)
        found.append(start)
    return found + left


def _cut(line, starts):
    """Returns the pieces of the line from these starts on, which its own starts are among."""
    pieces = []
    place = 0
    for start in starts:
        if place + 1 < len(line) and line[place + 1][0] == start:
            place += 1
        pieces.append(_from(line[place], start))
    return pieces


def _is_ahead(one, two):
    """Tells whether the one piece tells no less than the other one for all numbers just behind their start."""
    order = compare(one[1], two[1])
    return order > 0 or (order == 0 and compare(one[2], two[2]) >= 0)


def _meeting(ahead, behind):
    """Returns where the piece that is behind catches up with the one ahead, or None."""
    faster = minus(behind[2], ahead[2])
    if compare(faster, ZERO) <= 0:
        return None
    return plus(ahead[0], divided(minus(ahead[1], behind[1]), faster))


def _joined(pieces):
    """Returns the line of these pieces, without those that go on with the slope of the piece before them."""
    line = pieces[:1]
    for piece in pieces[1:]:
        if piece[2] != line[-1][2]:
            line.append(piece)
    return line
