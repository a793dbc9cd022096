"""Books: sheets with marks, leant by two shears; the words that lead ways; what comes first on a lamp's row."""

from neverhit.checks import FARTHEST, is_row, is_way, is_within
from neverhit.errors import BadBook, BadNumber, BadWay, BadWord, Misfit, TooMany
from neverhit.places import need_apart, need_seeing, posts_told
from neverhit.sheets import Sheet, is_end, is_mark, marks_on, need_fine, need_mark, need_sheet, sheet_of

LETTERS = ("a", "b")
SIDES = ("east", "north")
MOST_PAIRS = 200
MOST_LAMPS = 64
MOST_WISHES = 64
MOST_POST_MARKS = 1000
MOST_BOOKS = 5000


class Book:
    """A sheet with a fine and marks of lamps, wishes and posts."""

    def __init__(self, sheet, fine, lamps, wishes, posts):
        need_sheet(sheet, "sheet")
        need_fine(fine)
        lamps = _marks_told(sheet, fine, lamps, 1, MOST_LAMPS, "lamps")
        wishes = _marks_told(sheet, fine, wishes, 0, MOST_WISHES, "wishes")
        posts = _marks_told(sheet, fine, posts, 0, MOST_POST_MARKS, "posts")
        if len(set(lamps + wishes)) < len(lamps) + len(wishes):
            raise Misfit("wishes")
        if len(set(lamps + wishes + posts)) < len(lamps) + len(wishes) + len(posts):
            raise Misfit("posts")
        self.sheet = sheet
        self.fine = fine
        self.lamps = lamps
        self.wishes = tuple(sorted(wishes))
        self.posts = tuple(sorted(posts))
        self.key = _key_of(sheet.right, sheet.up, sheet.corners, lamps, wishes, posts)

    def __eq__(self, other):
        if not isinstance(other, Book):
            return False
        return self.fine == other.fine and self.key == other.key


def lean_sheet(sheet, letter, times=1):
    """The sheet leant so often."""
    need_sheet(sheet, "sheet")
    _need_leaning(letter, times)
    right, up = _rows_leant(sheet.right, sheet.up, letter, times)
    return Sheet(right, up, sheet.corners)


def lean_mark(sheet, fine, mark, letter, times=1):
    """The mark to which a mark of the sheet is led."""
    need_sheet(sheet, "sheet")
    need_fine(fine)
    need_mark(sheet.many, fine, mark)
    _need_leaning(letter, times)
    return _marks_leant(sheet.right, sheet.up, fine, [mark], letter, times)[0]


def word_of(way):
    """The word of a way, and to where it leads it."""
    if not is_way(way) or way[0] < 0 or way[1] < 0:
        raise BadWay("way")
    return word_for(way[0], way[1])


def ways_of(word):
    """The two ways that a word leads to the east and to the north."""
    if not (is_row(word) and len(word) <= MOST_PAIRS and all([_is_pair(pair) for pair in word])):
        raise BadWord("word")
    ways = (way_before(word, "east"), way_before(word, "north"))
    if max(ways[0] + ways[1]) > FARTHEST:
        raise Misfit("word")
    return ways


def book_of(room, lamp, wish, posts):
    """The book of a room with a lamp, a wish and posts."""
    need_seeing(room, lamp, wish)
    points = posts_told(room, posts)
    need_apart(lamp, wish, points)
    sheet = sheet_of(room)
    lamps, wishes = marks_on(room, sheet, lamp), marks_on(room, sheet, wish)
    return Book(sheet, room.fine, lamps, wishes, [mark for post in points for mark in marks_on(room, sheet, post)])


def leant(book, letter, times=1):
    """The book leant so often."""
    _need_book(book)
    _need_leaning(letter, times)
    sheet, fine = book.sheet, book.fine
    lamps, wishes, posts = [
        _marks_leant(sheet.right, sheet.up, fine, marks, letter, times)
        for marks in (book.lamps, book.wishes, book.posts)
    ]
    return Book(lean_sheet(sheet, letter, times), fine, lamps, wishes, posts)


def first_on(book, lamp, side):
    """What comes first to one side of a lamp, and how many parts away."""
    _need_book(book)
    if not is_within(lamp, 0, len(book.lamps) - 1):
        raise BadNumber("lamp")
    if not isinstance(side, str) or side not in SIDES:
        raise BadWord("side")
    return first_ahead(book.key, book.fine, things_of(book.key), book.key[3][lamp], side)


def books_from(book):
    """The keys of all books that come of one by leaning, its own, too, ascending."""
    _need_book(book)
    return tuple(sorted(books_met(book.key, book.fine)[0]))


def word_for(p, q):
    """The word of a way with numbers from 0 on, however great, and to where it leads it."""
    word = []
    while p > 0 and q > 0:
        if p >= q:
            word.append(("a", p // q))
            p = p % q
        else:
            word.append(("b", q // p))
            q = q % p
    return (tuple(word), "east" if q == 0 else "north")


def way_before(word, side):
    """The way that a word leads to one side."""
    p, q = (1, 0) if side == "east" else (0, 1)
    for letter, times in reversed(word):
        if letter == "a":
            p += times * q
        else:
            q += times * p
    return (p, q)


def led_by(sheet, fine, marks, word):
    """The right row and the upper row of a sheet that is leant by a word, and where some marks are led."""
    right, up = sheet.right, sheet.up
    for letter, times in word:
        marks = _marks_leant(right, up, fine, marks, letter, times)
        right, up = _rows_leant(right, up, letter, times)
    return right, up, marks


def numbered_anew(right, up, first):
    """The squares in the order of their new numbers, from the one that becomes 0, and each one's new number."""
    order = [first]
    anew = [None] * len(right)
    anew[first] = 0
    at = 0
    while at < len(order):
        number = order[at]
        for other in (right[number], up[number]):
            if anew[other] is None:
                anew[other] = len(order)
                order.append(other)
        at += 1
    return order, anew


def key_leant(key, fine, letter):
    """The key of the book that comes of the book of a key if it is leant once."""
    return key_turned(key, fine, letter)[0]


def key_turned(key, fine, letter):
    """What key_leant tells, and the numbers that its squares, in their order, had in the book of the key."""
    right, up, corners, lamps, wishes, posts = key
    # this is asked so often that marks are led and numbered anew at once
    back = _turned(right if letter == "a" else up)
    if letter == "a":
        up = [up[number] for number in right]
    else:
        right = [right[number] for number in up]
    _, x, y = lamps[0]
    first = 0 if (x >= y if letter == "a" else y >= x) else back[0]
    order, near = numbered_anew(right, up, first)
    far = [near[number] for number in back]
    rows = _rows_anew(right, up, corners, order, near)
    turned = (
        *rows,
        tuple(_led_once(lamps, fine, letter, near, far)),
        tuple(sorted(_led_once(wishes, fine, letter, near, far))),
        tuple(sorted(_led_once(posts, fine, letter, near, far))),
    )
    return turned, order


def books_met(key, fine, until_shown=False):
    """The keys that come of one by leaning, as they are met, perhaps up to the first one that shows a wish.

    Beside them stands for each one the number of the key and the letter of which it came, None for the first.
    """
    found, origins = [key], [None]
    seen = {key: True}
    at = 0
    is_done = until_shown and shown_by(key, fine) is not None
    while at < len(found) and not is_done:
        for letter in LETTERS:
            other = key_leant(found[at], fine, letter)
            if other in seen:
                continue
            if len(found) == MOST_BOOKS:
                raise TooMany("books", MOST_BOOKS)
            seen[other] = True
            found.append(other)
            origins.append((at, letter))
            is_done = until_shown and shown_by(other, fine) is not None
            if is_done:
                break
        at += 1
    return found, origins


def things_of(key):
    """What stands at the marks of the book of a key, of several things at one mark the one that counts first."""
    things = {}
    for mark in key[4]:
        things[mark] = "wish"
    for mark in key[5]:
        things[mark] = "post"
    for number, corner in enumerate(key[2]):
        if corner == 1:
            things[(number, 0, 0)] = "corner"
    return things


def first_ahead(key, fine, things, own, side):
    """What comes first to one side of a lamp's own mark in the book of a key, and how many parts away.

    The things are those of the book.
    """
    number, x, y = own
    parts = 0
    while parts == 0 or (number, x, y) != own:
        parts += 1
        if side == "east":
            x += 1
            if x == fine:
                number, x = key[0][number], 0
        else:
            y += 1
            if y == fine:
                number, y = key[1][number], 0
        what = things.get((number, x, y))
        if what is not None:
            return (what, parts)
    return ("round", parts)


def shown_by(key, fine):
    """The lamp and the side by which the book of a key shows a wish, and how many parts away; None if it does not."""
    things = things_of(key)
    for lamp, own in enumerate(key[3]):
        for side in SIDES:
            what, parts = first_ahead(key, fine, things, own, side)
            if what == "wish":
                return (lamp, side, parts)
    return None


def _need_book(book):
    """Nothing, if this is a Book."""
    if not isinstance(book, Book):
        raise BadBook("book")


def _need_leaning(letter, times):
    """Nothing, if these are a letter and how often one leans by it."""
    if not _is_letter(letter):
        raise BadWord("letter")
    if not is_within(times, 0, FARTHEST):
        raise BadNumber("times")


def _is_letter(value):
    """Whether a value is one of the letters."""
    return isinstance(value, str) and value in LETTERS


def _is_pair(value):
    """Whether a value is one of the pairs of a word."""
    return is_row(value) and len(value) == 2 and _is_letter(value[0]) and is_within(value[1], 1, FARTHEST)


def _marks_told(sheet, fine, value, least, most, part):
    """The marks, none of them at a corner unless they are posts, that a value tells."""
    if not (is_row(value) and least <= len(value) <= most):
        raise BadBook(part)
    if not all([is_mark(sheet.many, fine, mark) for mark in value]):
        raise BadBook(part)
    marks = tuple([tuple(mark) for mark in value])
    if len(set(marks)) < len(marks):
        raise BadBook(part)
    if part != "posts" and any([is_end(sheet, mark) for mark in marks]):
        raise BadBook(part)
    return marks


def _key_of(right, up, corners, lamps, wishes, posts):
    """The key of a sheet with marks: all of them by the new numbers of the squares."""
    order, anew = numbered_anew(right, up, lamps[0][0])
    rows = _rows_anew(right, up, corners, order, anew)
    return (
        *rows,
        tuple([(anew[number], x, y) for number, x, y in lamps]),
        tuple(sorted([(anew[number], x, y) for number, x, y in wishes])),
        tuple(sorted([(anew[number], x, y) for number, x, y in posts])),
    )


def _rows_anew(right, up, corners, order, anew):
    """The three rows of a sheet whose squares are numbered anew."""
    return (
        tuple([anew[right[number]] for number in order]),
        tuple([anew[up[number]] for number in order]),
        tuple([corners[number] for number in order]),
    )


def _led_once(marks, fine, letter, near, far):
    """Where some marks are led if the sheet is leant once, its squares numbered anew.

    near tells the new number of each square, far that of the one to its left, or below it.
    """
    if letter == "a":
        return [(near[n], x - y, y) if x >= y else (far[n], x - y + fine, y) for n, x, y in marks]
    return [(near[n], x, y - x) if y >= x else (far[n], x, y - x + fine) for n, x, y in marks]


def _turned(row):
    """For each square the one from which a row leads to it."""
    back = [0] * len(row)
    for number, other in enumerate(row):
        back[other] = number
    return back


def _rounds_of(row):
    """For each square the squares to which one comes from it, one behind another, until it comes again; and its place.

    Squares that come round together share one list, in which each has its place.
    """
    rounds = [None] * len(row)
    for first in range(len(row)):
        if rounds[first] is not None:
            continue
        passed = [first]
        while row[passed[-1]] != first:
            passed.append(row[passed[-1]])
        for place, number in enumerate(passed):
            rounds[number] = (passed, place)
    return rounds


def _further(rounds, number, times):
    """The square to which one comes from one by so many squares on, or back, if times is below 0."""
    passed, place = rounds[number]
    return passed[(place + times) % len(passed)]


def _rows_leant(right, up, letter, times):
    """The right row and the upper row of a sheet that is leant so often."""
    if letter == "a":
        rounds = _rounds_of(right)
        return right, tuple([up[_further(rounds, number, times)] for number in range(len(right))])
    rounds = _rounds_of(up)
    return tuple([right[_further(rounds, number, times)] for number in range(len(up))]), up


def _marks_leant(right, up, fine, marks, letter, times):
    """Where some marks of a sheet are led if it is leant so often."""
    if letter == "a":
        rounds = _rounds_of(right)
        return [
            (_further(rounds, n, (x - times * y) // fine), (x - times * y) % fine, y) for n, x, y in marks
        ]
    rounds = _rounds_of(up)
    return [(_further(rounds, n, (y - times * x) // fine), x, (y - times * x) % fine) for n, x, y in marks]
