"""Rows of cards, and their partings into a side that rises and one that falls."""

from wovenway.errors import NoRow

MOST_CARDS = 40
GREATEST = 1000000000

UP = "up"
DOWN = "down"
EITHER = "either"


def is_whole(thing):
    """Tell whether the thing is a whole number."""
    return isinstance(thing, int) and not isinstance(thing, bool)


def is_number(thing):
    """Tell whether the thing is a number that a card can have."""
    return is_whole(thing) and 0 <= thing <= GREATEST


def is_row(thing):
    """Tell whether the thing is a row."""
    if not isinstance(thing, tuple) or not 1 <= len(thing) <= MOST_CARDS:
        return False
    return all([is_number(card) for card in thing]) and len(set(thing)) == len(thing)


def check_row(thing):
    """Refuse what is no row."""
    if not is_row(thing):
        raise NoRow("a row is a tuple of 1 to 40 unlike whole numbers from 0 to 10 ** 9")


def rises(numbers):
    """Tell whether each of the numbers is greater than the one ahead of it."""
    return all([number < later for number, later in zip(numbers, numbers[1:])])


def are_places(row, thing):
    """Tell whether the thing is a rising tuple of places of cards of the row."""
    if not isinstance(thing, tuple):
        return False
    return all([is_whole(place) and 0 <= place < len(row) for place in thing]) and rises(thing)


def cards_on(row, given, side):
    """List the cards of the row that are given this side."""
    return [card for card, told in zip(row, given) if told == side]


def is_parting(row, thing):
    """Tell whether the thing is a parting of the row."""
    check_row(row)
    if not isinstance(thing, tuple) or len(thing) != len(row):
        return False
    ups = cards_on(row, thing, UP)
    downs = cards_on(row, thing, DOWN)
    return len(ups) + len(downs) == len(row) and rises(ups) and rises(downs[::-1])


def longer_starts(starts, card):
    """List what all partings of the cards ahead become with one more card, rising."""
    longer = []
    for given, last_up, last_down in starts:
        if card < last_down:
            longer.append((given + (DOWN,), last_up, card))
        if card > last_up:
            longer.append((given + (UP,), card, last_down))
    return longer


def all_starts(cards):
    """List all partings of the cards, rising, each with the last number of its two sides.

    The partings of every beginning of the cards are kept at once: there are
    never more of them than one more than it has cards.
    """
    starts = [((), -1, GREATEST + 1)]
    for card in cards:
        starts = longer_starts(starts, card)
    return starts


def all_partings(cards):
    """List all partings of the cards, rising; of no cards there is one."""
    return [given for given, last_up, last_down in all_starts(cards)]


def is_outward(cards, low, high):
    """Tell whether each of the cards lies outside of the two numbers and of all cards ahead of it."""
    for card in cards:
        if card > high:
            high = card
        elif card < low:
            low = card
        else:
            return False
    return True


def is_woven(cards):
    """Tell whether there is a parting of the cards; of no cards there is one.

    While the cards lie between the last numbers of the two sides, the one ahead
    of a card goes to the side that leaves this card between them. Behind the
    first card that does not lie there no card has a choice, and no other parting
    of the cards so far leaves those behind it more room than the one made so.
    """
    low = -1
    high = GREATEST + 1
    ahead = low
    for place, card in enumerate(cards):
        if card > high:
            return is_outward(cards[place + 1:], high, card)
        if card < low:
            return is_outward(cards[place + 1:], card, low)
        if card > ahead:
            low = ahead
        else:
            high = ahead
        ahead = card
    return True


def parting(row):
    """Tell the first parting of the row, None where there is none."""
    check_row(row)
    partings = all_partings(row)
    return partings[0] if partings else None


def how_many(row):
    """Tell how many partings of the row there are."""
    check_row(row)
    return len(all_partings(row))


def sure_side(given):
    """Tell the side that is given every time, "either" where both are."""
    return given[0] if given.count(given[0]) == len(given) else EITHER


def sure_sides(partings):
    """Tell for each card the side that all of the partings, one at least, have it on."""
    return tuple([sure_side(given) for given in zip(*partings)])


def sides(row):
    """Tell for each card the side that all partings have it on, None where there is no parting."""
    check_row(row)
    partings = all_partings(row)
    return sure_sides(partings) if partings else None
