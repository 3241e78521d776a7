"""Four cards that bar a row from being woven."""

from wovenway.rows import are_places, check_row


def between(number, one, other):
    """Tell whether the number lies between the two others, whichever of them is the greater."""
    return one < number < other or other < number < one


def opens(first, second, third):
    """Tell whether three numbers can be the first three of four that bar.

    Both ways to bar are one: the second and the third are on either hand of
    the first, and the fourth lies between the first and the third.
    """
    return between(first, second, third)


def closes(first, third, fourth):
    """Tell whether the fourth number, behind three that open, makes them bar."""
    return between(fourth, first, third)


def openings(row):
    """Tell the places of all three cards that can be the first of four, rising."""
    for first in range(len(row)):
        for second in range(first + 1, len(row)):
            for third in range(second + 1, len(row)):
                if opens(row[first], row[second], row[third]):
                    yield first, second, third


def closing(row, first, third):
    """Tell the first place behind the third at which a card closes, None where there is none."""
    for fourth in range(third + 1, len(row)):
        if closes(row[first], row[third], row[fourth]):
            return fourth
    return None


def four(row):
    """Tell the places of the first four cards that bar the row, None where none do."""
    check_row(row)
    for first, second, third in openings(row):
        fourth = closing(row, first, third)
        if fourth is not None:
            return first, second, third, fourth
    return None


def bars(row, thing):
    """Tell whether the thing is a rising tuple of places of four cards that bar the row."""
    check_row(row)
    if not are_places(row, thing) or len(thing) != 4:
        return False
    first, second, third, fourth = [row[place] for place in thing]
    return opens(first, second, third) and closes(first, third, fourth)
