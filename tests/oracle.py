"""Fans, places and rays once more, word by word as the document tells them, without a sheet.

It is slow, and shares nothing with the package, which goes by sheets: the tests compare the two.
"""

from fractions import Fraction


def is_open(room, one, other):
    """Whether there is an open side between two squares."""
    if one not in room.squares or other not in room.squares:
        return False
    if abs(one[0] - other[0]) + abs(one[1] - other[1]) != 1:
        return False
    return tuple(sorted((one, other))) not in room.shut


def around(point):
    """The four squares of the plane at a point of the grid, told in sides."""
    x, y = point
    return [(x - 1, y - 1), (x, y - 1), (x - 1, y), (x, y)]


def fan(room, square, grid):
    """The squares to which one comes from a square by open sides that end at a grid point."""
    found, fresh = [square], [square]
    while fresh:
        here = fresh.pop()
        for other in around(grid):
            if other not in found and is_open(room, here, other):
                found.append(other)
                fresh.append(other)
    return sorted(found)


def kind(room, square, grid):
    """Whether the fan is a corner, straight, or free."""
    squares = fan(room, square, grid)
    if len(squares) == 2:
        return "straight"
    pairs = [(one, other) for one in squares for other in squares if one < other and is_open(room, one, other)]
    return "free" if len(squares) == 4 and len(pairs) == 4 else "corner"


def grid_point(room, point):
    """The point of the grid, told in sides, if a point is one; None otherwise."""
    x, y = point
    if x % room.fine or y % room.fine:
        return None
    return (int(x) // room.fine, int(y) // room.fine)


def owners(room, point):
    """The squares that have a point."""
    x, y = point
    f = room.fine
    return [(i, j) for i, j in room.squares if i * f <= x <= i * f + f and j * f <= y <= j * f + f]


def is_place(room, point):
    """Whether a point is a place."""
    squares = owners(room, point)
    grid = grid_point(room, point)
    return bool(squares) and (grid is None or all(kind(room, square, grid) != "corner" for square in squares))


def settle(room, square, point, way):
    """What happens at once: the square, the way and the letters of the walls; None at a corner."""
    grid = grid_point(room, point)
    if grid is not None and square in around(grid):
        return settle_at_tip(room, square, grid, way)
    (x, y), (i, j), (p, q), f = point, square, way, room.fine
    letters = ""
    for at_side, a, b, letter in (
        (x == i * f, -1, 0, "W"), (x == i * f + f, 1, 0, "E"), (y == j * f, 0, -1, "S"), (y == j * f + f, 0, 1, "N"),
    ):
        if not at_side:
            continue
        beyond = (square[0] + a, square[1] + b)
        passable = is_open(room, square, beyond)
        if p * a + q * b > 0:
            if passable:
                square = beyond
            else:
                p, q = (-p, q) if a else (p, -q)
                letters += letter
        elif p * a + q * b == 0 and passable and (a, b) in ((1, 0), (0, 1)):
            square = beyond
    return square, (p, q), letters


def settle_at_tip(room, square, grid, way):
    """What happens at once at a tip."""
    what = kind(room, square, grid)
    if what == "corner":
        return None
    squares = fan(room, square, grid)
    (gx, gy), (p, q) = grid, way
    letters = ""
    if what == "straight":
        one, other = squares
        if one[1] == other[1]:
            out = 1 if one[1] < gy else -1
            if q * out > 0:
                q, letters = -q, "N" if out > 0 else "S"
        else:
            out = 1 if one[0] < gx else -1
            if p * out > 0:
                p, letters = -p, "E" if out > 0 else "W"
    # of the squares of the fan those that lie where the way leads; the east, the north one along a line
    for axis, number, line in ((0, p, gx), (1, q, gy)):
        least, most = min(s[axis] for s in squares), max(s[axis] for s in squares)
        if least != most:
            wanted = line if number >= 0 else line - 1
            squares = [s for s in squares if s[axis] == wanted]
    assert len(squares) == 1
    return squares[0], (p, q), letters


class Ray:
    """A ray that goes step by step; `met` are the letters so far, `ended` whether it is at a corner."""

    def __init__(self, room, number, place, way):
        self.room = room
        self.point = tuple(place)
        self.square, self.way, _ = settle(room, room.squares[number], self.point, way)
        self.met = ""
        self.ended = False
        self.came = None

    def stand(self):
        """The triple that tells how it stands."""
        x, y = self.point
        return (self.room.squares.index(self.square), (int(x), int(y)), self.way)

    def step(self):
        """One step on, side by side."""
        left = Fraction(1)
        x, y = self.point
        while left > 0:
            part = min([left] + self.parts_ahead(x, y))
            x, y = x + part * self.way[0], y + part * self.way[1]
            left -= part
            self.came = (self.square, self.way)
            told = settle(self.room, self.square, (x, y), self.way)
            if told is None:
                assert left == 0
                self.ended = True
                break
            self.square, self.way, letters = told
            self.met += letters
        assert x == int(x) and y == int(y)
        self.point = (int(x), int(y))

    def parts_ahead(self, x, y):
        """The parts of a step to the sides ahead."""
        (i, j), (p, q), f = self.square, self.way, self.room.fine
        parts = []
        if p:
            parts.append(Fraction((i * f + f if p > 0 else i * f) - x) / p)
        if q:
            parts.append(Fraction((j * f + f if q > 0 else j * f) - y) / q)
        return [part for part in parts if part > 0]

    def back(self):
        """How the opposite ray stands that begins where this one is, and goes back the way it came."""
        square, (p, q) = self.came or (self.square, self.way)
        told = settle(self.room, square, self.point, (-p, -q))
        return (self.room.squares.index(told[0]), self.point, told[1])


def track(room, number, place, way, most=10 ** 6):
    """The points of the track, and how it ends."""
    ray = Ray(room, number, place, way)
    begin = ray.stand()
    points = [ray.point]
    for _ in range(most):
        ray.step()
        if ray.ended:
            return (tuple(points + [ray.point]), "corner")
        if ray.stand() == begin:
            return (tuple(points), "round")
        points.append(ray.point)
    raise AssertionError("it neither ends nor comes round")


def comes_by(room, number, place, way, wish, posts, most=2000):
    """The numbers of steps, up to most, by which a ray comes to the wish past the posts."""
    ray = Ray(room, number, place, way)
    begin = ray.stand()
    found = []
    for step in range(1, most + 1):
        ray.step()
        if ray.ended or ray.stand() == begin or ray.point in posts:
            break
        if ray.point == wish:
            found.append(step)
    return found


def leant_rows(right, up, letter):
    """The rows of a sheet that is leant once, by the words of the document."""
    if letter == "a":
        return list(right), [up[right[n]] for n in range(len(right))]
    return [right[up[n]] for n in range(len(up))], list(up)


def leant_mark(right, up, fine, mark, letter):
    """Where a mark is led if the sheet is leant once, part by part."""
    number, x, y = mark
    for _ in range(y if letter == "a" else x):
        if letter == "a":
            number, x = (list(right).index(number), fine - 1) if x == 0 else (number, x - 1)
        else:
            number, y = (list(up).index(number), fine - 1) if y == 0 else (number, y - 1)
    return (number, x, y)


def key(right, up, corners, lamps, wishes, posts):
    """The key of a sheet with marks, square by square."""
    old = [lamps[0][0]]
    at = 0
    while at < len(old):
        for other in (right[old[at]], up[old[at]]):
            if other not in old:
                old.append(other)
        at += 1
    new = {number: at for at, number in enumerate(old)}
    rows = [tuple(new[row[number]] for number in old) for row in (right, up)]
    marks = [[(new[n], x, y) for n, x, y in lot] for lot in (lamps, wishes, posts)]
    return (*rows, tuple(corners[number] for number in old), tuple(marks[0]), tuple(sorted(marks[1])),
            tuple(sorted(marks[2])))


def leant_key(told, fine, letter):
    """The key of the book of a key that is leant once."""
    right, up, corners, *lots = told
    rows = leant_rows(right, up, letter)
    marks = [[leant_mark(right, up, fine, mark, letter) for mark in lot] for lot in lots]
    return key(*rows, corners, *marks)


def first_thing(told, fine, mark, side):
    """What comes first to one side of a mark of the book of a key, and how many parts away."""
    right, up, corners, _, wishes, posts = told
    number, x, y = mark
    parts = 0
    while True:
        parts += 1
        if side == "east":
            number, x = (right[number], 0) if x + 1 == fine else (number, x + 1)
        else:
            number, y = (up[number], 0) if y + 1 == fine else (number, y + 1)
        here = (number, x, y)
        if (x, y) == (0, 0) and corners[number] == 1:
            return ("corner", parts)
        for word, marks in (("post", posts), ("wish", wishes), ("round", (mark,))):
            if here in marks:
                return (word, parts)
