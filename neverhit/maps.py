"""Maps: which places of a room see which, without posts."""

from neverhit.books import LETTERS, MOST_BOOKS, SIDES, Book, books_met, key_turned, numbered_anew
from neverhit.checks import is_row
from neverhit.errors import BadPlace, TooMany
from neverhit.places import is_place, need_place, places_of
from neverhit.rooms import need_room
from neverhit.sheets import marks_on, point_seen, sheet_of

MOST_PLACES = 40


def lit_from(room, lamp):
    """The places that the lamp sees, ascending."""
    others, seen = _seen_by(room, lamp)
    return tuple([place for place in others if place in seen])


def dark_from(room, lamp):
    """The other places, which the lamp does not see, ascending."""
    others, seen = _seen_by(room, lamp)
    return tuple([place for place in others if place not in seen])


def dark_pairs(room):
    """The pairs of places that do not see one another, ascending, the lesser place first."""
    need_room(room, "room")
    table = _all_seen(room)
    return tuple([(one, other) for one in table for other in table if one < other and other not in table[one]])


def lamps_for(room, wishes):
    """The places that see each of some places, but themselves, ascending."""
    need_room(room, "room")
    if not is_row(wishes) or not all([is_place(room, wish) for wish in wishes]):
        raise BadPlace("wishes")
    wanted = [tuple(wish) for wish in wishes]
    table = _all_seen(room)
    return tuple([place for place in table if all([wish == place or wish in table[place] for wish in wanted])])


def see_table(room):
    """For each place a string that has a sign for each place: whether the one sees the other."""
    need_room(room, "room")
    table = _all_seen(room)
    return tuple(["".join([_sign(one, other, table[one]) for other in table]) for one in table])


def _sign(one, other, seen):
    """The sign that tells whether one place sees another one."""
    if one == other:
        return "."
    return "+" if other in seen else "-"


def _few_places(room):
    """All places of a room, ascending, if there are not too many."""
    places = places_of(room)
    if len(places) > MOST_PLACES:
        raise TooMany("places", MOST_PLACES)
    return places


def _seen_by(room, lamp):
    """All places but the lamp, ascending, and the points that it sees."""
    need_room(room, "room")
    need_place(room, lamp, "lamp")
    others = [place for place in _few_places(room) if place != tuple(lamp)]
    return others, _points_seen(room, lamp)


def _all_seen(room):
    """For each place, ascending, the points that it sees."""
    table = {}
    for place in _few_places(room):
        table[place] = _points_seen(room, place)
    return table


def _points_seen(room, lamp):
    """The points that a lamp sees, each as a key of a dict, perhaps the lamp, too."""
    sheet, fine = sheet_of(room), room.fine
    book = Book(sheet, fine, marks_on(room, sheet, lamp), (), ())
    order, _ = numbered_anew(sheet.right, sheet.up, book.lamps[0][0])
    # each mark of the room's sheet has a name; told are, point by point of a square, the names in all squares
    names = [[(number * fine + x) * fine + y for number in order] for x in range(fine) for y in range(fine)]
    points = {}
    for name in _names_seen(book.key, fine, names):
        points[point_seen(room, (name // (fine * fine), name // fine % fine, name % fine))] = True
    return points


def _names_seen(first, fine, names):
    """The names of the marks that come, in some book of a lamp alone, on the lamp's row or in its column.

    Names go with their marks when the book is leant. Where two ways of leaning lead to one key, each mark bears two
    names there: if the one of them is seen, so is the other one.
    """
    found, named = [first], {first: names}
    heads = list(range(len(first[0]) * fine * fine))
    passed = {}
    at = 0
    while at < len(found):
        key = found[at]
        for own in key[3]:
            for side in SIDES:
                _pass_names(key, fine, named[key], own, side, passed)
        if len(passed) + sum(first[2]) == len(heads):
            # all marks but corners are seen: left to ask is how many books come
            books_met(first, fine)
            return list(passed)
        for letter in LETTERS:
            other, order = key_turned(key, fine, letter)
            led = _names_led(named[key], key, fine, letter, order)
            if other in named:
                _join(heads, named[other], led)
                continue
            if len(found) == MOST_BOOKS:
                raise TooMany("books", MOST_BOOKS)
            found.append(other)
            named[other] = led
        at += 1
    seen = {}
    for name in passed:
        seen[_head(heads, name)] = True
    return [name for name in range(len(heads)) if _head(heads, name) in seen]


def _names_led(names, key, fine, letter, order):
    """The names of all marks of the book of a key if it is leant once; order tells the old numbers of its squares."""
    # marks that leave their square come to the one to its left, or below it: so from the one to the right, or above
    row = key[0] if letter == "a" else key[1]
    led = [None] * (fine * fine)
    for x in range(fine):
        for y in range(fine):
            old = names[x * fine + y]
            stays = x >= y if letter == "a" else y >= x
            at = (x - y) % fine * fine + y if letter == "a" else x * fine + (y - x) % fine
            led[at] = [old[number] for number in order] if stays else [old[row[number]] for number in order]
    return led


def _pass_names(key, fine, names, own, side, passed):
    """Puts the names of all marks to one side of a lamp's own mark, up to a corner or itself, into passed."""
    number, x, y = own
    is_first = True
    while is_first or (number, x, y) != own:
        is_first = False
        if side == "east":
            number, x = (number, x + 1) if x + 1 < fine else (key[0][number], 0)
        else:
            number, y = (number, y + 1) if y + 1 < fine else (key[1][number], 0)
        if x == 0 and y == 0 and key[2][number] == 1:
            break
        passed[names[x * fine + y][number]] = True


def _join(heads, names, others):
    """Makes names that stand at the same places be of one group."""
    for row, line in zip(names, others):
        if row == line:
            continue
        for one, other in zip(row, line):
            heads[_head(heads, one)] = _head(heads, other)


def _head(heads, name):
    """The name by which the group of a name is known."""
    while heads[name] != name:
        # the way to the head is made shorter for those that ask next
        heads[name] = heads[heads[name]]
        name = heads[name]
    return name
