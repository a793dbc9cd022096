"""Sheets: rooms unfolded, on which rays are straight; marks, the points of a sheet."""

from neverhit.checks import is_row, is_way, is_within
from neverhit.errors import BadNumber, BadPoint, BadSheet, BadText, BadWay, Misfit
from neverhit.places import is_corner, need_point, squares_at
from neverhit.rooms import MOST_FINE, need_room
from neverhit.texts import items_of, need_end, need_word, number_at

MOST_IN_SHEET = 400
MOST_ONWARD = 1000

# For each copy of a room the number of the side of a square that is the right one there, and of the upper one.
RIGHT_SIDES = (0, 2, 0, 2)
UPPER_SIDES = (1, 1, 3, 3)


class Sheet:
    """Squares, each with one to its right and one above it, and which of the lower left points are corners."""

    def __init__(self, right, up, corners):
        if not (is_row(right) and len(right) <= MOST_IN_SHEET and _is_order(right)):
            raise BadSheet("right")
        if not (is_row(up) and len(up) == len(right) and _is_order(up)):
            raise BadSheet("up")
        if not (is_row(corners) and len(corners) == len(right) and all([is_within(n, 0, 1) for n in corners])):
            raise BadSheet("corners")
        if not _reach_all(right, up):
            raise Misfit("up")
        if not _have_corners(right, up, corners):
            raise Misfit("corners")
        self.right = tuple(right)
        self.up = tuple(up)
        self.corners = tuple(corners)
        self.many = len(self.right)

    def __eq__(self, other):
        if not isinstance(other, Sheet):
            return False
        return self.right == other.right and self.up == other.up and self.corners == other.corners

    def __str__(self):
        right = " ".join([str(number) for number in self.right])
        up = " ".join([str(number) for number in self.up])
        corners = " ".join([str(number) for number in self.corners])
        return f"right {right} / up {up} / corners {corners}"

    @staticmethod
    def read(text):
        """The sheet whose text this is."""
        items = items_of(text)
        need_word(items, 0, "right")
        right = _right_read(items)
        many = len(right)
        up = _row_read(items, many + 1, "up", many, many - 1)
        corners = _row_read(items, 2 * many + 3, "corners", many, 1)
        need_end(items, 3 * many + 5)
        try:
            return Sheet(right, up, corners)
        except (BadSheet, Misfit):
            raise BadText(0, len(items) - 1) from None


def sheet_of(room):
    """The sheet of a room: each square in four copies."""
    need_room(room, "room")
    right, up, corners = [], [], []
    for square in range(room.many):
        for copy in range(4):
            beside = room.beyond[square][RIGHT_SIDES[copy]]
            above = room.beyond[square][UPPER_SIDES[copy]]
            right.append(4 * square + (copy ^ 1) if beside is None else 4 * beside + copy)
            up.append(4 * square + (copy ^ 2) if above is None else 4 * above + copy)
            # the lower left point of a copy is the tip that has the copy's number
            corners.append(1 if is_corner(room, square, copy) else 0)
    return Sheet(right, up, corners)


def marks_of(room, point):
    """The marks of a point of the room, ascending, each once."""
    need_room(room, "room")
    need_point(room, point)
    return marks_on(room, sheet_of(room), point)


def point_at(room, mark):
    """The point of the room whose mark this is, among the marks of the room's sheet and fine."""
    need_room(room, "room")
    need_mark(4 * room.many, room.fine, mark)
    return point_seen(room, mark)


def onward(sheet, fine, mark, way):
    """The mark to which one comes from a mark by a way, straight; None at a corner."""
    need_sheet(sheet, "sheet")
    need_fine(fine)
    need_mark(sheet.many, fine, mark)
    if not is_way(way) or not all([is_within(number, 0, MOST_ONWARD) for number in way]):
        raise BadWay("way")
    end = mark_behind(fine, mark, way, passed_by(sheet, fine, mark, way))
    return None if is_end(sheet, end) else end


def square_point(room, point):
    """The point of the square (0, 0) to which a point comes if the room is folded, square by square, upon it."""
    need_room(room, "room")
    need_point(room, point)
    return (_folded(point[0], room.fine), _folded(point[1], room.fine))


def need_sheet(sheet, part):
    """Nothing, if the value of this part is a Sheet."""
    if not isinstance(sheet, Sheet):
        raise BadSheet(part)


def need_fine(fine):
    """Nothing, if this is a fine."""
    if not is_within(fine, 1, MOST_FINE):
        raise BadNumber("fine")


def is_mark(many, fine, value):
    """Whether a value is a mark of a sheet of so many squares with this fine."""
    if not (is_row(value) and len(value) == 3 and is_within(value[0], 0, many - 1)):
        return False
    return is_within(value[1], 0, fine - 1) and is_within(value[2], 0, fine - 1)


def need_mark(many, fine, mark):
    """Nothing, if this is a mark of a sheet of so many squares with this fine."""
    if not is_mark(many, fine, mark):
        raise BadPoint("mark")


def marks_on(room, sheet, point):
    """The marks of a point of the room on its sheet, ascending, each once."""
    owners = squares_at(room, point)
    marks = [mark_seen(room, sheet, square, copy, point) for square in owners for copy in range(4)]
    return tuple(sorted(set(marks)))


def mark_seen(room, sheet, square, copy, point):
    """The mark of a point of a square in one of its copies."""
    i, j = room.squares[square]
    fine = room.fine
    x, y = point[0] - i * fine, point[1] - j * fine
    return mark_from(sheet, fine, 4 * square + copy, fine - x if copy & 1 else x, fine - y if copy & 2 else y)


def mark_from(sheet, fine, number, x, y):
    """The mark of a point that is x parts, up to fine, to the right and y parts above in a square of a sheet."""
    if x == fine:
        number, x = sheet.right[number], 0
    if y == fine:
        number, y = sheet.up[number], 0
    return (number, x, y)


def point_seen(room, mark):
    """The point of the room whose mark this is."""
    number, x, y = mark
    i, j = room.squares[number // 4]
    fine = room.fine
    return (i * fine + (fine - x if number & 1 else x), j * fine + (fine - y if number & 2 else y))


def passed_by(sheet, fine, mark, way):
    """The numbers of the squares by which a way leads from a mark, the mark's first, that of its end last."""
    number, x, y = mark
    p, q = way
    passed = [number]
    # how many parts away the next line is, to the right and up; parts to the right take q / p of those upward
    across, above = fine - x, fine - y
    while across <= p or above <= q:
        if across * q <= above * p:
            number = sheet.right[number]
            across += fine
        else:
            number = sheet.up[number]
            above += fine
        passed.append(number)
    return passed


def mark_behind(fine, mark, way, passed):
    """The mark to which a way leads from a mark by the squares that are passed."""
    return (passed[-1], (mark[1] + way[0]) % fine, (mark[2] + way[1]) % fine)


def is_end(sheet, mark):
    """Whether a mark is at a corner."""
    number, x, y = mark
    return x == 0 and y == 0 and sheet.corners[number] == 1


def _is_order(row):
    """Whether a row has each number from 0 on below their number once."""
    if not row or not all([is_within(number, 0, len(row) - 1) for number in row]):
        return False
    return len(set(row)) == len(row)


def _reach_all(right, up):
    """Whether by going right and up one comes from the square 0 to all."""
    found = [0]
    seen = {0: True}
    at = 0
    while at < len(found):
        number = found[at]
        for other in (right[number], up[number]):
            if other not in seen:
                seen[other] = True
                found.append(other)
        at += 1
    return len(found) == len(right)


def _have_corners(right, up, corners):
    """Whether there are corners wherever right and up, and up and right, lead to unlike squares."""
    for number in range(len(right)):
        one, other = up[right[number]], right[up[number]]
        if one != other and (corners[one] == 0 or corners[other] == 0):
            return False
    return True


def _right_read(items):
    """The numbers that a text of a sheet tells behind its first word."""
    right = [number_at(items, 1, 0, MOST_IN_SHEET - 1)]
    at = 2
    while len(right) < MOST_IN_SHEET and items[at:at + 1] != ["/"]:
        right.append(number_at(items, at, 0, MOST_IN_SHEET - 1))
        at += 1
    return right


def _row_read(items, at, word, many, most):
    """So many numbers, from 0 to most, that stand behind a stroke and a word."""
    need_word(items, at, "/")
    need_word(items, at + 1, word)
    return [number_at(items, at + 2 + n, 0, most) for n in range(many)]


def _folded(x, fine):
    """Where a number comes to if sides of so many parts are folded, by turns, upon the first one."""
    over = x % (2 * fine)
    return min(over, 2 * fine - over)
