"""The fewest cards that must be put elsewhere, and the greatest worth that can stay."""

from wovenway.errors import NoWorths
from wovenway.rows import UP, all_partings, are_places, check_row, is_number, is_woven


def are_worths(row, thing):
    """Tell whether the thing is a tuple with a worth for each card of the row."""
    if not isinstance(thing, tuple) or len(thing) != len(row):
        return False
    return all([is_number(number) for number in thing])


def check_worths(row, thing):
    """Refuse what are no worths of the row."""
    if not are_worths(row, thing):
        raise NoWorths("worths are a tuple with a whole number from 0 to 10 ** 9 for each card")


def staying(row, lot):
    """Tell the cards that stay where those at the places of the lot are put elsewhere."""
    return tuple([card for place, card in enumerate(row) if place not in lot])


def rising_worths(ranks, worths):
    """List for each beginning, and each bound, the greatest worth of cards of it below the bound that rise."""
    greatest = [0] * (len(ranks) + 1)
    told = [greatest]
    for rank, own in zip(ranks, worths):
        with_it = greatest[rank] + own
        greatest = greatest[:rank + 1] + [with_it if other < with_it else other for other in greatest[rank + 1:]]
        told.append(greatest)
    return told


def best_at_cut(low_ahead, low_behind, high_ahead, high_behind):
    """Tell the greatest worth of the four quarters together, over all bounds between the low and the high ones.

    The bounds of the high ones were told upside down, so that they are read from their end.
    """
    return max([
        one + two + three + last
        for one, two, three, last in zip(low_ahead, low_behind, high_ahead[::-1], high_behind[::-1])
    ])


def greatest_worth(row, worths):
    """Tell the greatest worth that cards which stay and are woven can have together.

    The last numbers of the two sides near one another until the one goes past
    the other, and from then on no card lies between them. So cards are woven
    just where a place and a bound cut them into quarters of which the low one
    ahead and the high one behind rise, the two others fall. No quarter hangs on
    another one; upside down, or read from its end, each is low, ahead and rises.
    """
    order = {card: rank for rank, card in enumerate(sorted(row))}
    ranks = [order[card] for card in row]
    turned = [len(row) - 1 - rank for rank in ranks]
    low_ahead = rising_worths(ranks, worths)
    high_ahead = rising_worths(turned, worths)
    low_behind = rising_worths(ranks[::-1], worths[::-1])[::-1]
    high_behind = rising_worths(turned[::-1], worths[::-1])[::-1]
    return max([best_at_cut(*quarters) for quarters in zip(low_ahead, low_behind, high_ahead, high_behind)])


def with_figure(own, figure, many):
    """Tell a worth that shows, in a sum of such, by its figure in twos whether the card is among them.

    Taken off from what counts ahead of the figures shown, the figure makes of
    lots that are as good the first one the best to put elsewhere. From nothing
    it is not taken, so that a card which is worth nothing stays where it can.
    """
    counted = (own << many) - figure if own > 0 else 0
    return (counted << many) + figure


def best_to_stay(row, worths):
    """List the places of cards of the greatest worth that can stay.

    Where none is worth nothing, the others are the first of the lots as good.
    """
    figures = [1 << place for place in range(len(row))][::-1]
    shown = greatest_worth(row, [with_figure(own, figure, len(row)) for own, figure in zip(worths, figures)])
    return [place for place, figure in enumerate(figures) if shown & figure]


def fewest(row):
    """Tell how few cards must be put elsewhere, and the places of the first lot of as few."""
    check_row(row)
    stay = best_to_stay(row, (1,) * len(row))
    lot = [place for place in range(len(row)) if place not in stay]
    return (len(lot), tuple(lot))


def put_in(woven, card):
    """List the cards with their sides and, in its place on the rising side, one more card."""
    for at, (other, side) in enumerate(woven):
        if side == UP and other > card:
            return [*woven[:at], (card, UP), *woven[at:]]
    return [*woven, (card, UP)]


def woven_of(row):
    """Tell a woven row of all the cards, in which only the fewest lie elsewhere."""
    lot = fewest(row)[1]
    stay = staying(row, lot)
    woven = list(zip(stay, all_partings(stay)[0]))
    for place in lot:
        woven = put_in(woven, row[place])
    return tuple([card for card, side in woven])


def can_be(row, thing):
    """Tell whether the thing is a rising tuple of places of a lot that can be put elsewhere."""
    check_row(row)
    return are_places(row, thing) and is_woven(staying(row, thing))


def worth(row, worths):
    """Tell the greatest worth that cards which stay and are woven can have together."""
    check_row(row)
    check_worths(row, worths)
    return greatest_worth(row, worths)


def worthiest(row, worths):
    """Tell the places of cards of the greatest worth that can stay."""
    check_row(row)
    check_worths(row, worths)
    return tuple(best_to_stay(row, worths))
