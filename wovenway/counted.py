"""How many rows are woven, and how hidden cards can be filled in."""

from wovenway.errors import NoHidden, NoNumber
from wovenway.rows import all_starts, is_whole, longer_starts

MOST_COUNTED = 60
MOST_HIDDEN = 7


def check_number(thing):
    """Refuse what is no number of cards to be counted."""
    if not is_whole(thing) or not 0 <= thing <= MOST_COUNTED:
        raise NoNumber("a number of cards is a whole number from 0 to 60")


def rows_of(many):
    """Tell how many rows of the numbers from 1 to this one, each once, are woven.

    A row with one of its partings is a choice of places and of as many numbers
    for "up", so that of n cards there are (2n over n) of these. By Atkinson's
    count of the skew-merged permutations (1998) the rows are fewer than these
    by the sum, over all m below n, of (2m over m) doubled n - m - 1 times.
    """
    check_number(many)
    parted = 1
    fewer = 0
    for cards in range(1, many + 1):
        fewer = 2 * fewer + parted
        parted = parted * (4 * cards - 2) // cards
    return parted - fewer


def is_hidden(thing):
    """Tell whether the thing is a hidden row."""
    if not isinstance(thing, tuple) or not 1 <= len(thing) <= MOST_HIDDEN:
        return False
    seen = [number for number in thing if number is not None]
    return all([is_whole(number) and 1 <= number <= len(thing) for number in seen]) and len(set(seen)) == len(seen)


def check_hidden(thing):
    """Refuse what is no hidden row."""
    if not is_hidden(thing):
        raise NoHidden("a hidden row is a tuple of 1 to 7 things, each None or a number of its own")


def choices(hidden, place):
    """List the numbers that can be at the place, rising: all that are not seen where it is hidden."""
    if hidden[place] is not None:
        return [hidden[place]]
    return [number for number in range(1, len(hidden) + 1) if number not in hidden]


def longer_beginnings(beginning, numbers):
    """List the woven beginnings, with their partings, that one more of the numbers makes of this one."""
    cards, starts = beginning
    longer = [((*cards, number), longer_starts(starts, number)) for number in numbers if number not in cards]
    return [(told, partings) for told, partings in longer if partings]


def fillings(hidden):
    """List all woven rows that the hidden row can be, rising."""
    beginnings = [((), all_starts(()))]
    for place in range(len(hidden)):
        numbers = choices(hidden, place)
        beginnings = [longer for beginning in beginnings for longer in longer_beginnings(beginning, numbers)]
    return [cards for cards, starts in beginnings]


def filled(hidden):
    """Tell how many woven rows the hidden row can be, and the first of them, None where there is none."""
    check_hidden(hidden)
    found = fillings(hidden)
    return (len(found), found[0] if found else None)
