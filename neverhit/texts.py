"""Reading texts item by item: the first item that cannot stand raises BadText."""

from neverhit.checks import is_row, is_within
from neverhit.errors import BadText

MOST_DIGITS = 140


def items_of(text):
    """The items of a text."""
    if not isinstance(text, str):
        raise BadText(0, 0)
    return text.split(" ")


def are_lines(value):
    """Whether a value is a list of strings."""
    return is_row(value) and all([isinstance(line, str) for line in value])


def is_numeral(item):
    """Whether an item is an integer just as texts write it."""
    digits = item[1:] if item.startswith("-") else item
    # the length is asked first, as Python does not read integers of any length
    if len(digits) > MOST_DIGITS or not (digits.isascii() and digits.isdigit()):
        return False
    return item == "0" or not digits.startswith("0")


def number_at(items, at, least, most):
    """The integer that is told at some item, within its bounds."""
    # a missing item has as its index the number of items, which is what is told of it
    if at >= len(items) or not is_numeral(items[at]):
        raise BadText(0, at)
    number = int(items[at])
    if not is_within(number, least, most):
        raise BadText(0, at)
    return number


def need_word(items, at, word):
    """Nothing, if just this word stands at some item."""
    if at >= len(items) or items[at] != word:
        raise BadText(0, at)


def need_end(items, at):
    """Nothing, if no item stands from this one on."""
    if at < len(items):
        raise BadText(0, at)
