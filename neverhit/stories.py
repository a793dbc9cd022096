"""Stories: rays told in lines, step by step; read back, and the first line that is wrong."""

from neverhit.checks import is_within
from neverhit.errors import BadNumber, BadPlace, BadText, BadWay, BadWord, Misfit
from neverhit.places import places_of
from neverhit.rays import beginning_of, need_having, need_ray, step_on
from neverhit.rooms import MOST_SQUARES, Room, need_room
from neverhit.sheets import is_end, point_seen
from neverhit.texts import are_lines, items_of, need_end, need_word, number_at

MOST_TOLD = 400
# the lines ahead of the first step: the room's and the ray's
HEAD = 2


def story_of(room, square, place, way, steps):
    """The lines of the story of a ray, up to so many steps."""
    need_ray(room, square, place, way)
    if not is_within(steps, 0, MOST_TOLD):
        raise BadNumber("steps")
    need_having(room, square, place)
    sheet, first, sizes = beginning_of(room, square, place, way)
    lines = [_room_line(room), f"from {square} {place[0]} {place[1]} by {way[0]} {way[1]}"]
    mark, end = first, "on"
    while len(lines) < HEAD + steps and end == "on":
        mark, letters = step_on(sheet, room.fine, mark, sizes)
        lines.append(_step_line(room, mark, letters))
        end = _end_at(sheet, first, mark)
    return (*lines, end)


def wrong_line(lines):
    """The number of the first line with which no story begins like this, or of those that tell none to the end.

    None if the lines are a story.
    """
    if not are_lines(lines):
        raise BadWord("lines")
    room = _room_told(lines[0]) if len(lines) > 0 else None
    if room is None:
        return 0
    ray = _ray_told(room, lines[1]) if len(lines) > 1 else None
    if ray is None:
        return 1
    return _wrong_behind(room, ray, lines)


def story_in(lines):
    """The room, the square, the place, the way and how many steps are told of the story that some lines are."""
    if wrong_line(lines) is not None:
        raise BadWord("lines")
    room = _room_told(lines[0])
    square, place, way = _ray_told(room, lines[1])
    return (room, square, place, way, len(lines) - HEAD - 1)


def shows_story(room, value):
    """Whether any value is a list of the lines of a story in this room."""
    need_room(room, "room")
    return are_lines(value) and wrong_line(value) is None and value[0] == _room_line(room)


def _room_line(room):
    """The first line of a story."""
    return "room " + str(room)


def _step_line(room, mark, letters):
    """The line of a step that comes to a mark, thrown back by these walls."""
    x, y = point_seen(room, mark)
    return f"to {x} {y} met {letters or '-'}"


def _end_at(sheet, first, mark):
    """The last line of a story whose last step comes to a mark."""
    if is_end(sheet, mark):
        return "corner"
    return "round" if mark == first else "on"


def _room_told(line):
    """The room that the first line of a story tells; None if no story begins so."""
    if not line.startswith("room "):
        return None
    try:
        room = Room.read(line[5:])
    except BadText:
        return None
    return room if places_of(room) else None


def _ray_told(room, line):
    """The square, the place and the way that the second line of a story tells; None if they are no ray of the room."""
    try:
        items = items_of(line)
        need_word(items, 0, "from")
        square, x, y = [number_at(items, at, None, None) for at in (1, 2, 3)]
        need_word(items, 4, "by")
        p, q = [number_at(items, at, None, None) for at in (5, 6)]
        need_end(items, 7)
        need_ray(room, square, (x, y), (p, q))
        need_having(room, square, (x, y))
    except (BadText, BadNumber, BadPlace, BadWay, Misfit):
        return None
    return (square, (x, y), (p, q))


def _wrong_behind(room, ray, lines):
    """What wrong_line tells, the first two lines being those of a room and of a ray."""
    sheet, first, sizes = beginning_of(room, *ray)
    mark, end, at = first, "on", HEAD
    while end == "on" and at < min(len(lines), HEAD + MOST_TOLD) and _may_tell_step(room, sizes, lines[at]):
        mark, letters = step_on(sheet, room.fine, mark, sizes)
        if lines[at] != _step_line(room, mark, letters):
            return at
        end = _end_at(sheet, first, mark)
        at += 1
    if at == len(lines) or lines[at] != end:
        return at
    return None if at + 1 == len(lines) else at + 1


def _may_tell_step(room, sizes, line):
    """Whether a line may tell a step by a way with these numbers, without signs."""
    # A room is at most 8 squares wide and high: of 8 sides that are crossed one way, one throws the ray back, but for
    # two that meet at a corner. A line with too few letters is wrong, so that no great way is followed for it.
    wide = MOST_SQUARES * room.fine
    return line.startswith("to ") and sizes[0] // wide + sizes[1] // wide <= len(line) + 2
