"""Desks: rooms kept by names, told what to do in lines; deeds are taken back and done again."""

from neverhit.changed import finer, finer_point, opened, shut_up
from neverhit.doors import MOST_CHANGED, darkened
from neverhit.errors import (
    BadLine, BadNumber, BadPlace, BadRoom, BadText, BadWay, BadWord, Misfit, NoName, TooMany, Twice,
)
from neverhit.guards import guards_of
from neverhit.judged import judged
from neverhit.nearest import shortest
from neverhit.places import MOST_POSTS, is_place, need_place, squares_at
from neverhit.rays import track_of
from neverhit.rooms import Room
from neverhit.texts import are_lines, items_of, need_end, number_at

MOST_DEEDS = 200
LONGEST_NAME = 12

# what stands behind the first item of a line, in the words of the document
FORMS = {
    "new": "NAME TEXT",
    "copy": "NAME OTHER",
    "shut": "NAME I J K L",
    "open": "NAME I J K L",
    "lamp": "NAME X Y",
    "wish": "NAME X Y",
    "post": "NAME X Y",
    "drop": "NAME X Y",
    "bare": "NAME",
    "guard": "NAME",
    "forget": "NAME",
    "room": "NAME",
    "marks": "NAME",
    "seen": "NAME",
    "near": "NAME",
    "track": "NAME SQUARE X Y P Q",
    "doors": "NAME N",
    "undo": "",
    "redo": "",
}


def _line_told(line):
    """The first item of a line, and what stands behind it: names, integers, a room."""
    items = items_of(line)
    if items[0] not in FORMS:
        raise BadText(0, 0)
    forms = FORMS[items[0]].split()
    told = [_item_told(items, at + 1, form) for at, form in enumerate(forms)]
    # the text of a room takes all items up to the end
    if "TEXT" not in forms:
        need_end(items, len(forms) + 1)
    return items[0], told


def _item_told(items, at, form):
    """What is told from some item of a line on, which is of this form."""
    if form == "TEXT":
        return _room_told(items, at)
    if form == "N":
        return number_at(items, at, 0, MOST_CHANGED)
    if form not in ("NAME", "OTHER"):
        return number_at(items, at, None, None)
    if at >= len(items) or not _is_name(items[at]):
        raise BadText(0, at)
    return items[at]


def _room_told(items, at):
    """The room whose text stands from some item of a line on."""
    try:
        return Room.read(" ".join(items[at:]))
    except BadText as bad_text:
        raise BadText(0, at + bad_text.item) from None


def _is_name(item):
    """Whether an item can be the name of a room."""
    if not (len(item) <= LONGEST_NAME and item.isascii() and item.isalnum()):
        return False
    return item == item.lower() and not item[0].isdigit()


def _entry_of(kept, name):
    """What is kept by a name: a room, its lamp and its wish, None for none, and its posts, ascending."""
    if not isinstance(name, str) or name not in kept:
        raise NoName(name)
    return kept[name]


def _need_free(kept, name):
    """Nothing, if nothing is kept by this name."""
    if name in kept:
        raise Twice(name)


def _need_unlike(place, others, part):
    """Nothing, if a place of this part is none of some others."""
    if place in others:
        raise Misfit(part)


def _seeing_of(kept, name):
    """What is kept by a name, if it has a lamp and a wish."""
    room, lamp, wish, posts = _entry_of(kept, name)
    if lamp is None:
        raise Misfit("lamp")
    if wish is None:
        raise Misfit("wish")
    return room, lamp, wish, posts


def _numbers_told(numbers):
    """Numbers in a text."""
    return " ".join([str(number) for number in numbers])


def _rows_told(rows):
    """Rows of numbers in a text; a minus for none."""
    return " / ".join([_numbers_told(row) for row in rows]) if rows else "-"


# Each deed gives what is kept by its name from now on, None for nothing, and the answer; each ask the answer alone.

def _new(kept, name, room):
    """Keeps a room by a name; how many squares it has."""
    _need_free(kept, name)
    return (room, None, None, ()), room.many


def _copy(kept, name, other):
    """Keeps what another name has by a name; how many squares it has."""
    _need_free(kept, name)
    entry = _entry_of(kept, other)
    return entry, entry[0].many


def _shut(kept, name, i, j, k, m):
    """Shuts a side; how many sides are shut now."""
    room, lamp, wish, posts = _entry_of(kept, name)
    return _with_sides(shut_up(room, ((i, j), (k, m))), lamp, wish, posts)


def _open(kept, name, i, j, k, m):
    """Opens a side; how many sides are shut now."""
    room, lamp, wish, posts = _entry_of(kept, name)
    return _with_sides(opened(room, ((i, j), (k, m))), lamp, wish, posts)


def _with_sides(room, lamp, wish, posts):
    """What is kept of a room some side of which was changed, and how many of its sides are shut."""
    for part, place in (("lamp", lamp), ("wish", wish)):
        if place is not None and not is_place(room, place):
            raise Misfit(part)
    return (room, lamp, wish, posts), len(room.shut)


def _lamp(kept, name, x, y):
    """Puts the lamp at a place; the numbers of the squares that have it."""
    room, _, wish, posts = _entry_of(kept, name)
    need_place(room, (x, y), "lamp")
    _need_unlike((x, y), (wish, *posts), "lamp")
    return (room, (x, y), wish, posts), _numbers_told(squares_at(room, (x, y)))


def _wish(kept, name, x, y):
    """Puts the wish at a place; the numbers of the squares that have it."""
    room, lamp, _, posts = _entry_of(kept, name)
    need_place(room, (x, y), "wish")
    _need_unlike((x, y), (lamp, *posts), "wish")
    return (room, lamp, (x, y), posts), _numbers_told(squares_at(room, (x, y)))


def _post(kept, name, x, y):
    """Puts a post at a point; how many posts there are now."""
    room, lamp, wish, posts = _entry_of(kept, name)
    if not squares_at(room, (x, y)):
        raise BadPlace("post")
    _need_unlike((x, y), (lamp, wish, *posts), "post")
    if len(posts) == MOST_POSTS:
        raise TooMany("posts", MOST_POSTS)
    return (room, lamp, wish, tuple(sorted([*posts, (x, y)]))), len(posts) + 1


def _drop(kept, name, x, y):
    """Takes a post away; how many posts there are now."""
    room, lamp, wish, posts = _entry_of(kept, name)
    if (x, y) not in posts:
        raise Misfit("post")
    return (room, lamp, wish, tuple([post for post in posts if post != (x, y)])), len(posts) - 1


def _bare(kept, name):
    """Takes all posts away; how many there were."""
    room, lamp, wish, posts = _entry_of(kept, name)
    return (room, lamp, wish, ()), len(posts)


def _guard(kept, name):
    """Makes the room finer by 2, and the guards its posts; how many posts there are now."""
    room, lamp, wish, _ = _seeing_of(kept, name)
    double = finer(room, 2)
    guards = guards_of(room, lamp, wish)
    if len(guards) > MOST_POSTS:
        raise TooMany("posts", MOST_POSTS)
    return (double, finer_point(room, 2, lamp), finer_point(room, 2, wish), guards), len(guards)


def _forget(kept, name):
    """Keeps nothing by a name; the name."""
    _entry_of(kept, name)
    return None, name


def _room(kept, name):
    """The text of a room."""
    return str(_entry_of(kept, name)[0])


def _marks(kept, name):
    """The lamp, the wish and the posts of a room."""
    _, lamp, wish, posts = _entry_of(kept, name)
    ends = [[] if place is None else [place] for place in (lamp, wish)]
    return " / ".join([_rows_told(points) for points in (*ends, posts)])


def _seen(kept, name):
    """Whether the wish is lit or dark."""
    room, lamp, wish, posts = _seeing_of(kept, name)
    return judged(room, lamp, wish, posts).word


def _near(kept, name):
    """The shortest ray as its square, way and steps, or that it is dark."""
    room, lamp, wish, posts = _seeing_of(kept, name)
    paper = shortest(room, lamp, wish, posts)
    return _numbers_told([paper.square, *paper.way, paper.steps]) if paper else paper.word


def _track(kept, name, square, x, y, p, q):
    """The points of a track, and how it ends."""
    track = track_of(_entry_of(kept, name)[0], square, (x, y), (p, q))
    return f"{_rows_told(track.points)} / {track.end}"


def _doors(kept, name, most):
    """The sides that make the wish dark, or that there are none."""
    room, lamp, wish, posts = _seeing_of(kept, name)
    paper = darkened(room, lamp, wish, posts, most)
    return _rows_told([(*one, *other) for one, other in paper.sides]) if paper else "no"


DEEDS = {
    "new": _new, "copy": _copy, "shut": _shut, "open": _open, "lamp": _lamp, "wish": _wish, "post": _post,
    "drop": _drop, "bare": _bare, "guard": _guard, "forget": _forget,
}
ASKS = {"room": _room, "marks": _marks, "seen": _seen, "near": _near, "track": _track, "doors": _doors}


def _lines_of(deeds):
    """The lines of some deeds."""
    return tuple([deed[0] for deed in deeds])


def _error_at(desk, line):
    """The error that a desk raises when it is told a line; None for none."""
    # a handler but reads the fields of an error: so each one is made anew
    try:
        desk.tell(line)
    except BadText as bad_text:
        return BadText(bad_text.line, bad_text.item)
    except BadNumber as bad_number:
        return BadNumber(bad_number.part)
    except BadRoom as bad_room:
        return BadRoom(bad_room.part)
    except BadPlace as bad_place:
        return BadPlace(bad_place.part)
    except BadWay as bad_way:
        return BadWay(bad_way.part)
    except Misfit as misfit:
        return Misfit(misfit.part)
    except NoName as no_name:
        return NoName(no_name.value)
    except Twice as twice:
        return Twice(twice.value)
    except TooMany as too_many:
        return TooMany(too_many.what, too_many.most)
    return None


class Desk:
    """Rooms kept by names; it changes by the deeds that it is told."""

    def __init__(self):
        self.kept = {}
        # each deed: its line, the name, what was kept by it before and what behind it
        self.stand = []
        self.gone = []

    def tell(self, line):
        """Does what a line says, and answers."""
        word, told = _line_told(line)
        if word == "undo":
            return self._taken_back()
        if word == "redo":
            return self._done_again()
        if word in ASKS:
            ask = ASKS[word]
            return ask(self.kept, *told)
        deed = DEEDS[word]
        entry, answer = deed(self.kept, *told)
        if len(self.stand) == MOST_DEEDS:
            raise TooMany("lines", MOST_DEEDS)
        self.stand.append((line, told[0], self.kept.get(told[0]), entry))
        self.gone = []
        self._keep(told[0], entry)
        return str(answer)

    def names(self):
        """All names by which rooms are kept, ascending."""
        return tuple(sorted(list(self.kept)))

    def room(self, name):
        """The room that is kept by a name."""
        return _entry_of(self.kept, name)[0]

    def marks(self, name):
        """The lamp and the wish, None for none, and the posts, ascending, that are kept by a name."""
        _, lamp, wish, posts = _entry_of(self.kept, name)
        return (lamp, wish, posts)

    def lines(self):
        """The lines of all deeds that stand."""
        return _lines_of(self.stand)

    def twin(self):
        """Another desk, equal, that goes on by itself."""
        desk = Desk()
        desk.kept = dict(self.kept)
        desk.stand = list(self.stand)
        desk.gone = list(self.gone)
        return desk

    def __eq__(self, other):
        if not isinstance(other, Desk):
            return False
        return _lines_of(self.stand) == _lines_of(other.stand) and _lines_of(self.gone) == _lines_of(other.gone)

    @staticmethod
    def read(lines):
        """The desk that is told some lines, one behind another."""
        if not are_lines(lines):
            raise BadWord("lines")
        desk = Desk()
        for at, line in enumerate(lines):
            error = _error_at(desk, line)
            if error is not None:
                raise BadLine(at, error)
        return desk

    def _keep(self, name, entry):
        """Keeps something by a name from now on; nothing, if it is None."""
        if entry is None:
            del self.kept[name]
        else:
            self.kept[name] = entry

    def _taken_back(self):
        """Takes the last deed back that stands; its line."""
        if not self.stand:
            raise Misfit("undo")
        line, name, before, entry = self.stand.pop()
        self.gone.append((line, name, before, entry))
        self._keep(name, before)
        return line

    def _done_again(self):
        """Does the deed again that was taken back last; its line."""
        if not self.gone:
            raise Misfit("redo")
        line, name, before, entry = self.gone.pop()
        self.stand.append((line, name, before, entry))
        self._keep(name, entry)
        return line
