"""A woven row that is laid card by card."""

from wovenway.errors import Barred, Full, NoCard, NoneLeft, Taken
from wovenway.fours import four
from wovenway.rows import GREATEST, MOST_CARDS, all_partings, all_starts, is_number, is_woven, longer_starts, sure_sides


def stretches(cards):
    """List all stretches of numbers that do not lie there, as pairs of their two ends, rising."""
    edges = [-1] + sorted(cards) + [GREATEST + 1]
    ends = [(below + 1, above - 1) for below, above in zip(edges, edges[1:])]
    return [(low, high) for low, high in ends if low <= high]


class Laid:
    """A laid row: the cards that lie there are woven at all times."""

    def __init__(self):
        self.row = ()

    def lay(self, card):
        """Lay a card behind the others."""
        if not is_number(card):
            raise NoCard("a card is a whole number from 0 to 10 ** 9")
        if card in self.row:
            raise Taken("this card lies there")
        if len(self.row) >= MOST_CARDS:
            raise Full("40 cards lie there")
        longer = (*self.row, card)
        if not is_woven(longer):
            raise Barred(four(longer))
        self.row = longer

    def take(self):
        """Take the last card away."""
        if not self.row:
            raise NoneLeft("no card lies there")
        self.row = self.row[:-1]

    def cards(self):
        """Tell the cards that lie there."""
        return self.row

    def partings(self):
        """Tell how many partings of the cards there are, one of none."""
        return len(all_partings(self.row))

    def sides(self):
        """Tell for each card the side that all partings have it on."""
        return sure_sides(all_partings(self.row))

    def can_be_laid(self):
        """List the stretches of numbers each of which would leave the row woven, however many lie.

        How a number lies among the others is all that counts, so that of a
        stretch between them all numbers can be laid where one can.
        """
        starts = all_starts(self.row)
        return [(low, high) for low, high in stretches(self.row) if longer_starts(starts, low)]

    def __len__(self):
        return len(self.row)

    def __eq__(self, other):
        return isinstance(other, Laid) and self.row == other.row
