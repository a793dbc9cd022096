"""Rooms: squares that hang together by open sides, and the walls around and between them."""

from neverhit.checks import is_point, is_row, is_within
from neverhit.errors import BadRoom, BadText, Misfit
from neverhit.texts import items_of, need_word, number_at

FARTHEST_SQUARE = 99
MOST_SQUARES = 8
MOST_FINE = 24

# The sides of a square are numbered in all files: 0 to the east, 1 to the north, 2 to the west, 3 to the south.
STEPS = ((1, 0), (0, 1), (-1, 0), (0, -1))
ENDS = (((1, 0), (1, 1)), ((0, 1), (1, 1)), ((0, 0), (0, 1)), ((0, 0), (1, 0)))


def is_square(value):
    """Whether a value is a pair of integers that are near enough to 0 for a square."""
    if not is_point(value):
        return False
    i, j = value
    return is_within(i, -FARTHEST_SQUARE, FARTHEST_SQUARE) and is_within(j, -FARTHEST_SQUARE, FARTHEST_SQUARE)


def side_told(value, squares):
    """The side between two of some squares that a value tells, the lesser one first; None if it tells none."""
    if not (is_row(value) and len(value) == 2 and is_point(value[0]) and is_point(value[1])):
        return None
    lesser, greater = sorted([tuple(value[0]), tuple(value[1])])
    if lesser not in squares or greater not in squares:
        return None
    if abs(greater[0] - lesser[0]) + abs(greater[1] - lesser[1]) != 1:
        return None
    return (lesser, greater)


def hang_together(squares, shut):
    """Whether some squares hang together by the sides between them that are not among the shut ones."""
    beyond = _all_beyond(squares, shut)
    found = [0]
    at = 0
    while at < len(found):
        row = beyond[found[at]]
        fresh = [number for number in row if number is not None and number not in found]
        found.extend(fresh)
        at += 1
    return len(found) == len(squares)


def need_room(room, part):
    """Nothing, if the value of this part is a Room."""
    if not isinstance(room, Room):
        raise BadRoom(part)


def _squares_told(value):
    """The squares that a value tells, ascending."""
    if not (is_row(value) and 1 <= len(value) <= MOST_SQUARES and all([is_square(square) for square in value])):
        raise BadRoom("squares")
    squares = sorted(set([tuple(square) for square in value]))
    if len(squares) < len(value):
        raise BadRoom("squares")
    return tuple(squares)


def _shut_told(value, squares):
    """The shut sides between some squares that a value tells, ascending."""
    if not is_row(value):
        raise BadRoom("shut")
    sides = [side_told(side, squares) for side in value]
    if None in sides or len(set(sides)) < len(sides):
        raise BadRoom("shut")
    return tuple(sorted(sides))


def _number_beyond(squares, shut, square, side):
    """The number of the square beyond an open side of a square; None if a wall is there."""
    beyond = (square[0] + STEPS[side][0], square[1] + STEPS[side][1])
    if beyond not in squares or tuple(sorted([square, beyond])) in shut:
        return None
    return squares.index(beyond)


def _all_beyond(squares, shut):
    """For each square the numbers of the squares beyond its sides, to the east, north, west, south; None at walls."""
    return tuple([tuple([_number_beyond(squares, shut, square, side) for side in range(4)]) for square in squares])


def _squares_read(items):
    """The squares that a text of a room tells, and the index of the item behind them."""
    squares = []
    at = 2
    while len(squares) < MOST_SQUARES:
        need_word(items, at, "/")
        i = number_at(items, at + 1, -FARTHEST_SQUARE, FARTHEST_SQUARE)
        j = number_at(items, at + 2, -FARTHEST_SQUARE, FARTHEST_SQUARE)
        squares.append((i, j))
        at += 3
        if at == len(items) or items[at:at + 2] == ["/", "shut"]:
            break
    return squares, at


def _shut_read(items, at):
    """The shut sides that a text of a room tells from some item on."""
    sides = []
    while at < len(items):
        need_word(items, at, "/")
        need_word(items, at + 1, "shut")
        i, j, k, m = [number_at(items, at + n, -FARTHEST_SQUARE, FARTHEST_SQUARE) for n in (2, 3, 4, 5)]
        sides.append(((i, j), (k, m)))
        at += 6
    return sides


class Room:
    """A room of squares, some sides between them shut, each side in so many parts."""

    def __init__(self, squares, shut=(), fine=1):
        self.squares = _squares_told(squares)
        self.shut = _shut_told(shut, self.squares)
        if not is_within(fine, 1, MOST_FINE):
            raise BadRoom("fine")
        if not hang_together(self.squares, self.shut):
            raise Misfit("shut")
        self.fine = fine
        self.many = len(self.squares)
        self.beyond = _all_beyond(self.squares, self.shut)

    def __eq__(self, other):
        if not isinstance(other, Room):
            return False
        return self.squares == other.squares and self.shut == other.shut and self.fine == other.fine

    def __str__(self):
        squares = "".join([f" / {i} {j}" for i, j in self.squares])
        sides = "".join([f" / shut {i} {j} {k} {m}" for (i, j), (k, m) in self.shut])
        return f"fine {self.fine}{squares}{sides}"

    @staticmethod
    def read(text):
        """The room whose text this is."""
        items = items_of(text)
        need_word(items, 0, "fine")
        fine = number_at(items, 1, 1, MOST_FINE)
        squares, at = _squares_read(items)
        shut = _shut_read(items, at)
        try:
            room = Room(squares, shut, fine)
        except (BadRoom, Misfit):
            raise BadText(0, len(items) - 1) from None
        # what is told in another order makes the same room, but has another text
        if str(room) != text:
            raise BadText(0, len(items) - 1)
        return room


def open_sides(room):
    """All open sides, ascending, each as a pair of squares, the lesser one first."""
    need_room(room, "room")
    sides = []
    for number, row in enumerate(room.beyond):
        for other in row:
            if other is not None and number < other:
                sides.append((room.squares[number], room.squares[other]))
    return tuple(sorted(sides))


def walls_of(room):
    """All walls, ascending, each once, as a pair of the points between which it stands, told in sides."""
    need_room(room, "room")
    walls = []
    for number, (i, j) in enumerate(room.squares):
        for side, ((a, b), (c, d)) in enumerate(ENDS):
            if room.beyond[number][side] is None:
                walls.append(((i + a, j + b), (i + c, j + d)))
    return tuple(sorted(set(walls)))
