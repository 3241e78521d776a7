"""The fewest cards that must be put elsewhere, and the greatest worth that can stay."""

from wovenway.errors import NoWorths
from wovenway.rows import GREATEST, UP, all_partings, are_places, check_row, is_number, is_woven


def are_worths(row, thing):
    """Tell whether the thing is a tuple with a worth for each card of the row."""
    if not isinstance(thing, tuple) or len(thing) != len(row):
        return False
    return all([is_number(number) for number in thing])


def check_worths(row, thing):
    """Refuse what are no worths of the row."""
    if not are_worths(row, thing):
        raise NoWorths("worths are a tuple with a whole number from 0 to 10 ** 9 for each card")


def staying(row, lot):
    """Tell the cards that stay where those at the places of the lot are put elsewhere."""
    return tuple([card for place, card in enumerate(row) if place not in lot])


def keep_first(firsts, ends, told):
    """Keep what is told of these ends where it goes ahead of what was told of them."""
    if ends not in firsts or told < firsts[ends]:
        firsts[ends] = told


def with_card(firsts, place, card, price):
    """Tell anew, with one more card, for the last numbers of the two sides what was paid, and for which lot."""
    later = {}
    for ends in firsts:
        last_up, last_down = ends
        paid, lot = firsts[ends]
        keep_first(later, ends, (paid + price, (*lot, place)))
        if card > last_up:
            keep_first(later, (card, last_down), (paid, lot))
        if card < last_down:
            keep_first(later, (last_up, card), (paid, lot))
    return later


def cheapest(row, prices):
    """Tell the least price of a lot that can be put elsewhere, and such a lot.

    What can come behind a beginning hangs only on the last numbers of its two
    sides, so of all lots with the same ones a single one is kept, the first of
    the cheapest. At prices of one each the cheapest have as many places as one
    another, so that the first stays ahead whatever comes behind.
    """
    firsts = {(-1, GREATEST + 1): (0, ())}
    for place, card in enumerate(row):
        firsts = with_card(firsts, place, card, prices[place])
    return min(list(firsts.values()))


def fewest(row):
    """Tell how few cards must be put elsewhere, and the places of the first lot of as few."""
    check_row(row)
    return cheapest(row, (1,) * len(row))


def put_in(woven, card):
    """List the cards with their sides and, in its place on the rising side, one more card."""
    for at, (other, side) in enumerate(woven):
        if side == UP and other > card:
            return [*woven[:at], (card, UP), *woven[at:]]
    return [*woven, (card, UP)]


def woven_of(row):
    """Tell a woven row of all the cards, in which only the fewest lie elsewhere."""
    lot = fewest(row)[1]
    stay = staying(row, lot)
    woven = list(zip(stay, all_partings(stay)[0]))
    for place in lot:
        woven = put_in(woven, row[place])
    return tuple([card for card, side in woven])


def can_be(row, thing):
    """Tell whether the thing is a rising tuple of places of a lot that can be put elsewhere."""
    check_row(row)
    return are_places(row, thing) and is_woven(staying(row, thing))


def worth(row, worths):
    """Tell the greatest worth that cards which stay and are woven can have together."""
    check_row(row)
    check_worths(row, worths)
    return sum(worths) - cheapest(row, worths)[0]


def worthiest(row, worths):
    """Tell the places of cards of the greatest worth that can stay."""
    check_row(row)
    check_worths(row, worths)
    lot = cheapest(row, worths)[1]
    return tuple([place for place in range(len(row)) if place not in lot])
